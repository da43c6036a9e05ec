import Derived.Test.YtjbekgjdempbiaaGreatDoorJSq
import Derived.Test.YtjbekgjdempbiaaGreatDoorJState
import Derived.Test.YtjbekgjdempbiaaGreatDoorJSets
set_option maxRecDepth 100000
set_option maxHeartbeats 8000000
namespace Go.Proofs
open Go.RowKit Go.Sort Go.Lib Go.Shelf Go.Maps
attribute [local go_sem] Oper.semAt_some
def Yi (tm:Int) (tks:List Xe) (lks:List Xd):List InfoD:=tks.map Xe.info++lks.map (Xd.info tm)
theorem Tryz.M4:∀ args w,(callFunc 136 args).run prog w=.ok (.enter 136 args) w:=enters_of func136 (by kernel_rfl) rfl
theorem Tryz.Mv:∀ args w,(callFunc 139 args).run prog w=.ok (.enter 139 args) w:=enters_of func139 (by kernel_rfl) rfl
structure Tryz.Good (bad:TypeId->Bool):Prop where
 name:bad 114=false
 mapT:bad 120=false
 mapL:bad 121=false
 tok:bad 153=false
 lea:bad 131=false
 vault:bad 126=false
 ptr:bad 76=false
 yld:bad 148=false
noncomputable def X3 {tks:List Xe} (x:{ p // p∈tks.map Xe.key }):Xe:=Classical.choose (List.mem_map.1 x.2)
noncomputable def Xy {lks:List Xd} (x:{ p // p∈lks.map Xd.key }):Xd:=Classical.choose (List.mem_map.1 x.2)
theorem Zk {tks:List Xe} (x:{ p // p∈tks.map Xe.key }):X3 x∈tks/\(X3 x).key=x.1:=Classical.choose_spec (List.mem_map.1 x.2)
theorem Zl {lks:List Xd} (x:{ p // p∈lks.map Xd.key }):Xy x∈lks/\(Xy x).key=x.1:=Classical.choose_spec (List.mem_map.1 x.2)
theorem Xb8 {α:Type} (f:α->Nat):∀ {l:List α},l.Pairwise (fun a b=>f a<f b)->∀ {a b:α},a∈l->b∈l->f a=f b->a=b
 | [],_,_,_,h,_,_=>by cases h
 | x :: l,hp,a,b,ha,hb,e=>by
  obtain⟨h1,h2⟩:=List.pairwise_cons.1 hp
  rcases List.mem_cons.1 ha with rfl | ha' <;> rcases List.mem_cons.1 hb with rfl | hb'
  ·rfl
  ·have:=h1 b hb';omega
  ·have:=h1 a ha';omega
  exact Xb8 f h2 ha' hb' e
theorem Ua {tks:List Xe} (h:tks.Pairwise (fun a b=>a.n<b.n)):(tks.map Xe.key).attach.map X3=tks:=by
 apply List.ext_getElem (by simp);intro i h1 h2;rw [List.getElem_map];obtain⟨hm,hk⟩:=Zk ((tks.map Xe.key).attach[i]'(by simpa using h1));refine Xb8 Xe.n h hm (List.getElem_mem h2) ?_
 have e:((tks.map Xe.key).attach[i]'(by simpa using h1)).1=tks[i].key:=by simp
 rw [e] at hk;have:=congrArg (fun p=>p.1.2) hk;simp only [Xe.key] at this
 exact_mod_cast this
theorem Uf {lks:List Xd} (h:lks.Pairwise (fun a b=>a.n<b.n)):(lks.map Xd.key).attach.map Xy=lks:=by
 apply List.ext_getElem (by simp);intro i h1 h2;rw [List.getElem_map];obtain⟨hm,hk⟩:=Zl ((lks.map Xd.key).attach[i]'(by simpa using h1));refine Xb8 Xd.n h hm (List.getElem_mem h2) ?_
 have e:((lks.map Xd.key).attach[i]'(by simpa using h1)).1=lks[i].key:=by simp
 rw [e] at hk;have:=congrArg (fun p=>p.1.2) hk;simp only [Xd.key] at this
 exact_mod_cast this
structure Tryz.Ctx (l Bv vb mt ml By:Nat) (vx:VX) (tm tn ln:Int) (tks:List Xe) (lks:List Xd) (V:World):Prop where
 bv:BoxN V Bv 76 #[.pointer (some ⟨vb,0,none⟩)]
 v:BoxN V vb 126 (Tryz.Yp vx tm mt ml tn ln)
 by_:BoxN V By 148 #[.func (.yield l) #[] #[]]
 held:Tryz.Ui V mt ml tks lks
theorem Tryz.Ctx.from {β:Type} {l Bv vb mt ml By:Nat} {vx:VX} {tm tn ln:Int} {tks:List Xe} {lks:List Xd} {B:Nat} (hmt:mt<B) (hml:ml<B):OwnFrom B (fun(_:β) V=>Ctx l Bv vb mt ml By vx tm tn ln tks lks V):=fun s V V' row h hg hr=>by
 have hr':∀ r,row=some r->∃ o:Obj,V.heap[r]? = some o/\o.isCells=false:=fun r e=>(hr r e).2
 exact⟨X6 Bv _ (fun(_:Unit)=>#[.pointer (some ⟨vb,0,none⟩)]) () V V' row h.bv hg hr',X6 vb _ (fun(_:Unit)=>(Yp vx tm mt ml tn ln)) () V V' row h.v hg hr',
  X6 By _ (fun(_:Unit)=>#[.func (.yield l) #[] #[]]) () V V' row h.by_ hg hr',Ui.from B mt ml tks lks hmt hml s V V' row h.held hg hr⟩
theorem Tryz.Ctx.keeps {bad:TypeId->Bool} (hg:Good bad) {l Bv vb mt ml By:Nat} {vx:VX} {tm tn ln:Int} {tks:List Xe} {lks:List Xd} {V V':World} (h:Ctx l Bv vb mt ml By vx tm tn ln tks lks V) (hk:KeepsT bad V V'):Ctx l Bv vb mt ml By vx tm tn ln tks lks V':=
 ⟨hk.box h.bv hg.ptr,hk.box h.v hg.vault,hk.box h.by_ hg.yld,h.held.keeps hk⟩
def Uy (m:Nat) (P:Program) (l:Nat) (args:Array Value) (W:World) (R:Ending->World->Prop):Prop:=
 ∃ fn tmps assign body,(Instr.yield l args).run P W=.ok (.round l fn tmps assign body) W/\RoundIn Fence.wide m P l fn tmps assign body W R
theorem Uy.of {m m':Nat} {P:Program} {l:Nat} {args:Array Value} {W:World} {R R':Ending->World->Prop} (h:YieldAt Fence.wide m' P l args W R) (hr:∀ e w',R e w'->R' e w'):Uy m P l args W R':=by
 obtain⟨fn,tmps,assign,body,hy,hR⟩:=h;exact⟨fn,tmps,assign,body,hy,hR.1,fun c cs _=>let ⟨e,w',r,s⟩:=hR.2 c cs (room_wide _);⟨e,w',hr _ _ r,s⟩⟩
theorem Y4 {V V':World} (B:Nat) (h:Below V.heap.size V V'):KeepsFrom B V V':=⟨h.size,fun k _ _ h1 _=>(h.block k (Array.getElem?_eq_some_iff.1 h1).1).trans h1⟩
theorem Xa7 {β:Type} {B:Nat} (D:Nat) (o:Obj) (hD:D<B):OwnFrom B (fun(_:β) V=>V.heap[D]? = some o):=fun _ _ _ _ hs hg hr=>(hg.block D (Array.getElem?_eq_some_iff.1 hs).1 (fun e=>by have:=(hr D e.symm).1;omega)).trans hs
theorem Xmf {β:Type} {B B':Nat} {I:β->World->Prop} (h:OwnFrom B I) (hB:B<=B'):OwnFrom B' I:=fun s V V' row hs hg hr=>h s V V' row hs hg (fun r e=>⟨Nat.le_trans hB (hr r e).1,(hr r e).2⟩)
theorem Me {β γ:Type} {B:Nat} {I:β->World->Prop} (h:OwnFrom B I) (f:γ->β):OwnFrom B (fun s V=>I (f s) V):=fun s V V' row hs hg hr=>h (f s) V V' row hs hg hr
theorem Tryz.Xk9 (n:Nat) (hn:6<=n) (bad:TypeId->Bool) (hg:Good bad) (l Bv vb mt ml:Nat) (vx:VX) (tm tn ln:Int) (tks:List Xe) (lks:List Xd) (hok:X5 tks lks)
  (J Jx:List InfoD->World->Prop) (W:World) (hE:Env W) (h6:6<=W.heap.size)
  (hJ:OwnFrom W.heap.size J) (hJx:OwnFrom W.heap.size Jx) (hJE:∀ s V,J s V->Env V/\6<=V.heap.size)
  (hY:∀ pre x W1,J pre W1->pre.length<(Yi tm tks lks).length->YieldAt Fence.wide (n-1) prog l #[.agg (InfoD.cells x)] W1 fun e W' =>
   (e=.returned (.bool true)/\J (pre ++ [x]) W'/\KeepsT bad W1 W'/\KeepsFrom W.heap.size W1 W')\/(e=.returned (.bool false)/\Jx (pre ++ [x]) W'/\KeepsFrom W.heap.size W1 W'))
  (hbv:BoxN W Bv 76 #[.pointer (some ⟨vb,0,none⟩)]) (hv:BoxN W vb 126 (Yp vx tm mt ml tn ln)) (hh:Ui W mt ml tks lks) (h0:J [] W) :
  CallsIn Fence.wide n prog 78 #[.func (.yield l) #[] #[],.pointer (some ⟨Bv,0,none⟩)] W fun e W'=>(∃ v,e=.returned v)/\((∃ xs,xs=Yi tm tks lks/\J xs W')\/(∃ pre,pre <+: Yi tm tks lks/\Jx pre W')):=by
 have h1:1<=n:=by omega
 have hfw:Fence.wide.fn 79:=trivial;have hfw2:Fence.wide.fn 81:=trivial;have cv:=hbv.cell 0 (v:=.pointer (some ⟨vb,0,none⟩)) rfl;have v0:=hv.cell 2 (v:=.int .u64 tm) rfl;have v1:=hv.cell 3 (v:=.map (some mt)) rfl;have v2:=hv.cell 4 (v:=.map (some ml)) rfl;have lB:=hbv.lt;have lv:=hv.lt;refine callsIn_of_wp_marks func78 rfl trivial ?_ rfl;simp only [ntmps78,List.size_toArray,List.length_cons,List.length_nil,Nat.reduceAdd,Nat.reduceSub,Array.replicate_succ,Array.replicate_zero,List.push_toArray,List.append_toArray,List.nil_append,List.cons_append]
 gi_wp2_with (gi_at_call 79;refine(callsIn_wide.2 (Xd0 (some mt) _)).mono ?_;rintro e w' ⟨rfl,rfl⟩)
 obtain⟨kT,sT⟩:=hok.ksT;obtain⟨nT,hnT,mT⟩:=hh.mapT;have hlt:=hh.lt;have bY:=(BoxN.new W 148 #[.func (.yield l) #[] #[]]).alloc (.cells #[.map (some mt)] 120);have bM:=BoxN.new (W.alloc (.cells #[.func (.yield l) #[] #[]] 148)) 120 #[.map (some mt)];have hB0:Below W.heap.size W ((W.alloc (.cells #[.func (.yield l) #[] #[]] 148)).alloc (.cells #[.map (some mt)] 120)):=((Below.refl _ W).alloc (Nat.le_refl _) _).alloc (by simp) _;have hJ0:=hJ [] _ _ none (hJ [] _ _ none h0 (World.grownBy_alloc W (.cells #[.func (.yield l) #[] #[]] 148) none) (fun r e=>by cases e)) (World.grownBy_alloc _ (.cells #[.map (some mt)] 120) none) (fun r e=>by cases e);have mT0:=(KeepsT.below (bad:=bad) hB0).map mT
 have cx0:Ctx l Bv vb mt ml W.heap.size vx tm tn ln tks lks ((W.alloc (.cells #[.func (.yield l) #[] #[]] 148)).alloc (.cells #[.map (some mt)] 120)):=
  ⟨hbv.below hB0 lB,hv.below hB0 lv,bY,hh.keeps (KeepsT.below (bad:=bad) hB0)⟩
 rw [World.size_alloc] at bM
 have hsz:((W.alloc (.cells #[.func (.yield l) #[] #[]] 148)).alloc (.cells #[.map (some mt)] 120)).heap.size=W.heap.size+2:=by simp
 have hE0:=hE.below hB0 h6
 obtain⟨W0,hW0⟩:∃ W0,(W.alloc (.cells #[.func (.yield l) #[] #[]] 148)).alloc (.cells #[.map (some mt)] 120)=W0:=⟨_,rfl⟩
 rw [hW0] at bM hB0 hJ0 mT0 cx0 hsz hE0 ⊢;clear hW0 bY cv v0 v1 v2 hbv hv
 refine wpIn_rangeFunc_ownH rfl h1 (gf:=136) (lb:=#[.pointer (some ⟨W.heap.size+1,0,none⟩)]) rfl trivial M4
  (Jt (n-1) (by omega) bad hg.name hg.mapT (W.heap.size+1) mt nT (tks.map Xe.key) kT sT (by have:=hok.lenT;simp;omega) (Xe.sh tks) W0 bM mT0) Jl Jk (Below.refl _ _) (fun _=>rfl)
  (fun pre V=>J (pre.map fun x=>(X3 x).info) V/\Ctx l Bv vb mt ml W.heap.size vx tm tn ln tks lks V)
  (fun c pre V=>c=.ret/\Jx (pre.map fun x=>(X3 x).info) V)
  (OwnFrom.and (Me (Xmf hJ (by omega)) _) (Ctx.from (by omega) (by omega)))
  (fun c s V V' row hs hgr hr=>⟨hs.1,hJx _ V V' row hs.2 hgr (fun r e=>⟨by have:=(hr r e).1;omega,(hr r e).2⟩)⟩)
  ⟨hJ0,cx0⟩
  (fun x a' V=>∃ Bx Bt,BoxN V Bx 114 #[.int .i64 x.1.1.1,.int .u64 x.1.1.2]/\BoxN V Bt 153 (X3 x).cells/\a' = { tmps:=#[.func (.yield l) #[] #[],.pointer (some ⟨Bv,0,none⟩),.pointer (some ⟨W.heap.size,0,none⟩),.pointer (some ⟨Bx,0,none⟩),.pointer (some ⟨Bt,0,none⟩),undef,undef,.pointer (some ⟨vb,0,none⟩),.pointer (some ⟨vb,0,none⟩),.pointer (some ⟨vb,3,none⟩),.map (some mt),.func (.func 136) #[] #[.pointer (some ⟨W.heap.size+1,0,none⟩)],.agg #[.int .i64 x.1.1.1,.int .u64 x.1.1.2],.agg (X3 x).cells,undef,undef,undef,undef,undef,undef,undef,undef,undef,undef,undef,undef,undef,undef,undef,undef,undef,undef,undef,undef,undef],defers:=[] })
  (fun x a' _ X Y row hs hgr hr=>by obtain⟨Bx,Bt,h2,h2',h3⟩:=hs;exact⟨Bx,Bt,X6 Bx 114 (fun(_:Unit)=>#[.int .i64 x.1.1.1,.int .u64 x.1.1.2]) () X Y row h2 hgr (fun r e=>(hr r e).2),X6 Bt 153 (fun(_:Unit)=>(X3 x).cells) () X Y row h2' hgr (fun r e=>(hr r e).2),h3⟩)
  ?assign ?body ?done ?stop
 case assign =>
  rintro ll pre x V K ⟨hJ1,cx1⟩ hK
  have e2:x.1.2=.agg (X3 x).cells:=by rw [<- (Zk x).2];rfl
  rw [e2];unfold nmV;simp only [Xe.cells] at hK ⊢
  gi_wp2
  refine hK _ _ (((KeepsOthers.alloc _ _).from _).trans ((KeepsOthers.alloc _ _).from _)) ((KeepsT.alloc _ _).trans (KeepsT.alloc _ _)) ⟨(Me hJ _) pre _ _ none ((Me hJ _) pre V _ none hJ1 (World.grownBy_alloc V _ none) (fun r e=>by cases e)) (World.grownBy_alloc _ _ none) (fun r e=>by cases e),cx1.keeps hg ((KeepsT.alloc _ _).trans (KeepsT.alloc _ _))⟩ ⟨V.heap.size,V.heap.size+1,(BoxN.new V 114 _).alloc _,by have h:=BoxN.new (V.alloc (.cells #[.int .i64 x.1.1.1,.int .u64 x.1.1.2] 114)) 153 #[.int .i64 (X3 x).ak,.int .u64 (X3 x).au,.int .u64 (X3 x).at_,.int .i64 (X3 x).tr,.bool (X3 x).pd];rwa [World.size_alloc] at h,rfl⟩
 case body =>
  rintro ll pre x a' V hl ⟨r,hr⟩ ⟨hJ1,cx1⟩ ⟨Bx,Bt,bX,bT,rfl⟩ hlt';obtain⟨ht,hkx⟩:=Zk x
  obtain⟨tk,htk⟩:∃ tk,X3 x=tk:=⟨_,rfl⟩
  rw [htk] at ht hkx bT ⊢;obtain⟨x,hxm⟩:=x;simp only at hkx;subst hkx;obtain⟨hEV,h6V⟩:=hJE _ _ hJ1;have be:=bT;have cY:=cx1.by_.cell 0 (v:=.func (.yield l) #[] #[]) rfl;have x0:=bX.cell 0 (v:=.int .i64 1) rfl;have x1:=bX.cell 1 (v:=.int .u64 (tk.n:Int)) rfl;have hinf:=Xi1 Bt 1 tk.n tk.ak tk.au tk.at_ tk.tr tk.pd (hok.limT tk ht).1 (hok.limT tk ht).2
  have h1n:1<=n-1-1:=by omega
  have hlenx:(pre.map fun x=>(X3 x).info).length<(Yi tm tks lks).length:=by simp [Yi] at hlt' ⊢;omega
  have hcall:∀ V1,Below V.heap.size V V1->CallsIn Fence.wide (n-1-1-1) prog 80 #[.pointer (some ⟨Bt,0,none⟩),.agg #[.int .i64 1,.int .u64 (tk.n:Int)]] V1 fun e V2=>e=.returned (.agg (InfoD.cells tk.info))/\Below V.heap.size V V2 /\
    Uy (n-1-1-1) prog l #[.agg (InfoD.cells tk.info)] V2 (fun e W'=>∃ bb:Bool,e=.returned (.bool bb)/\KeepsFrom W.heap.size V2 W'/\(bb=true->J ((pre.map fun x=>(X3 x).info) ++ [tk.info]) W'/\KeepsT bad V2 W')/\(bb=false->Jx ((pre.map fun x=>(X3 x).info) ++ [tk.info]) W')):=fun V1 hb1=>by
   have be1:=be.below hb1 be.lt;refine(callsIn_wide.2 ((hinf V1 (hEV.below hb1 h6V) (Nat.le_trans h6V hb1.size) (be1.cell 0 rfl) (be1.cell 1 rfl) (be1.cell 2 rfl) (be1.cell 3 rfl) (be1.cell 4 rfl)).mono ?_));rintro e V2 ⟨rfl,hb2⟩;have hbV:=hb1.trans (hb2.mono hb1.size);refine⟨rfl,hbV,?_⟩;have hJ2:=Me hJ (fun pre:List { p // p∈tks.map Xe.key }=>pre.map fun x=>(X3 x).info) pre V V2 none hJ1 (Zv hbV) (fun r e=>by cases e);refine Uy.of (hY _ tk.info V2 hJ2 hlenx) ?_;rintro e W' (⟨rfl,h1,h2,h3⟩ | ⟨rfl,h1,h3⟩)
   ·exact⟨true,rfl,h3,(fun _=>⟨h1,h2⟩),(fun h=>by cases h)⟩
   ·exact⟨false,rfl,h3,(fun h=>by cases h),fun _=>h1⟩
  generalize InfoD.cells tk.info=ic at *;have hfi:Fence.wide.fn 80:=trivial;simp only [Xe.key]
  gi_wp2_with fail
  refine wpIn_region_any (by kernel_rfl) (Xx ll (by kernel_rfl) _ _ _ _ ?_)
  change wpAnyIn _ _ _ _ _ _ _ _ _ (World.drew _)
  refine Xs 0 1 rfl rfl (fun K hK=>?_) fun K hK=>?_
  focus
   go_simp;refine hK _ _ ?_;clear hK K;refine Xr 1 rfl fun K hK=>?_;go_simp;refine hK _ _ ?_;clear hK K;refine Xr 2 rfl fun K hK=>?_;go_simp;refine(hcall _ (Xz.below (Xz.refl V).drew)).mono ?_;rintro e V2 ⟨rfl,hbV,fn,tmps,assign,body,hy,hR⟩;have cY2:=cell_later hbV cY
  rotate_left
  focus
   go_simp;refine hK _ _ ?_;clear hK K;refine Xs 0 2 rfl rfl (fun K hK=>?_) fun K hK=>?_
   focus
    go_simp;refine hK _ _ ?_;clear hK K;refine Xr 2 rfl fun K hK=>?_;go_simp;refine(hcall _ (Xz.below (Xz.refl V).drew)).mono ?_;rintro e V2 ⟨rfl,hbV,fn,tmps,assign,body,hy,hR⟩;have cY2:=cell_later hbV cY
   rotate_left
   focus
    go_simp;refine(hcall _ (Xz.below (Xz.refl V).drew)).mono ?_;rintro e V2 ⟨rfl,hbV,fn,tmps,assign,body,hy,hR⟩;have cY2:=cell_later hbV cY;refine hK _ _ ?_;clear hK K;refine Xr 0 rfl fun K hK=>?_;go_simp
   rotate_left
  rotate_left 2
  all_goals
   refine hK _ _ ?_;clear hK K;refine Xr 3 rfl fun K hK=>?_;go_simp;refine RoundIn.mono hR ?_;rintro e W3 ⟨bb,rfl,hKF,hT,hF⟩;refine hK _ _ ?_;clear hK K;refine Xr 4 rfl fun K hK=>?_;go_simp;refine hK _ _ ?_;clear hK K;refine wpAnyIn_done (by kernel_rfl) ?_ _;have hKA:=(Y4 (W.heap.size+2) hbV).trans (Ys hKF (by omega))
   cases bb with
   | true =>
    obtain⟨hJ4,hkt⟩:=hT rfl;have hktA:=(KeepsT.below (bad:=bad) hbV).trans hkt
    gi_wp2
    exact⟨hKA,hktA,(show J ((pre ++ [(⟨tk.key,hxm⟩:{ p // p∈tks.map Xe.key })]).map fun x=>(X3 x).info) W3 by rw [List.map_append,List.map_singleton,htk];exact hJ4),cx1.keeps hg hktA⟩
   | false =>
    have hx4:=hF rfl
    gi_wp2
    exact⟨hKA,rfl,(show Jx ((pre ++ [(⟨tk.key,hxm⟩:{ p // p∈tks.map Xe.key })]).map fun x=>(X3 x).info) W3 by rw [List.map_append,List.map_singleton,htk];exact hx4)⟩
 case done =>
  rintro D1 zs V hD rfl ⟨hJ1,cx1⟩ hD1;have hD1lt:=(Array.getElem?_eq_some_iff.1 hD1).1;have cv:=cx1.bv.cell 0 (v:=.pointer (some ⟨vb,0,none⟩)) rfl;have v2:=cx1.v.cell 4 (v:=.map (some ml)) rfl
  have hJT:J (tks.map Xe.info) V:=by
   have e:((tks.map Xe.key).attach.map fun x=>(X3 x).info)=tks.map Xe.info:=by
    have:=congrArg (List.map Xe.info) (Ua hok.incT);rw [List.map_map] at this;exact this
   rw [<- e];exact hJ1
  clear hJ1
  gi_wp2_with (gi_at_call 81;refine(callsIn_wide.2 (Xd4 (some ml) _)).mono ?_;rintro e w' ⟨rfl,rfl⟩)
  clear v2 cv;obtain⟨kL,sL⟩:=hok.ksL;obtain⟨nL,hnL,mL⟩:=cx1.held.mapL;have hltV:=cx1.held.lt;have bM:=BoxN.new V 121 #[.map (some ml)];have hB1:Below V.heap.size V (V.alloc (.cells #[.map (some ml)] 121)):=(Below.refl _ V).alloc (Nat.le_refl _) _;have hJ2:=hJ _ _ _ none hJT (World.grownBy_alloc V (.cells #[.map (some ml)] 121) none) (fun r e=>by cases e);have mL1:=(KeepsT.below (bad:=bad) hB1).map mL;have cx2:=cx1.keeps hg (KeepsT.below (bad:=bad) hB1);have hD2:(V.alloc (.cells #[.map (some ml)] 121)).heap[D1]? = some (.deferred (some [])):=(hB1.block D1 hD1lt).trans hD1
  have hs1:(V.alloc (.cells #[.map (some ml)] 121)).heap.size=V.heap.size+1:=by simp
  obtain⟨V1,hV1⟩:∃ V1,V.alloc (.cells #[.map (some ml)] 121)=V1:=⟨_,rfl⟩
  rw [hV1] at bM hB1 hJ2 mL1 cx2 hD2 hs1 ⊢;clear hV1 cx1 mL hD1 hB1
  refine wpIn_rangeFunc_ownH rfl h1 (gf:=139) (lb:=#[.pointer (some ⟨V.heap.size,0,none⟩)]) rfl trivial Mv
   (Ju (n-1) (by omega) bad hg.name hg.mapL V.heap.size ml nL (lks.map Xd.key) kL sL (by have:=hok.lenL;simp;omega) (Xd.sh lks) V1 bM mL1) Jl Jk (Below.refl _ _) (fun _=>rfl)
   (fun pre V=>(J (tks.map Xe.info++pre.map fun x=>(Xy x).info tm) V/\Ctx l Bv vb mt ml W.heap.size vx tm tn ln tks lks V)/\V.heap[D1]? = some (.deferred (some [])))
   (fun c pre V=>c=.ret/\Jx (tks.map Xe.info++pre.map fun x=>(Xy x).info tm) V/\V.heap[D1]? = some (.deferred (some [])))
   (OwnFrom.and (OwnFrom.and (Me (Xmf hJ (by omega)) _) (Ctx.from (by omega) (by omega))) (Xa7 D1 _ (by omega)))
   (fun c s V V' row hs hgr hr=>⟨hs.1,hJx _ V V' row hs.2.1 hgr (fun r e=>⟨by have:=(hr r e).1;omega,(hr r e).2⟩),Xa7 D1 _ (by omega) () V V' row hs.2.2 hgr hr⟩)
   ⟨⟨by simpa using hJ2,cx2⟩,hD2⟩
   (fun x a' V'=>∃ Bx Bt,BoxN V' Bx 114 #[.int .i64 x.1.1.1,.int .u64 x.1.1.2]/\BoxN V' Bt 131 (Xy x).cells/\a' = { tmps:=#[.func (.yield l) #[] #[],.pointer (some ⟨Bv,0,none⟩),.pointer (some ⟨W.heap.size,0,none⟩),undef,undef,.pointer (some ⟨Bx,0,none⟩),.pointer (some ⟨Bt,0,none⟩),.pointer (some ⟨vb,0,none⟩),.pointer (some ⟨vb,0,none⟩),.pointer (some ⟨vb,3,none⟩),.map (some mt),.func (.func 136) #[] #[.pointer (some ⟨W.heap.size+1,0,none⟩)],undef,undef,undef,undef,undef,undef,undef,.pointer (some ⟨vb,0,none⟩),.pointer (some ⟨vb,0,none⟩),.pointer (some ⟨vb,4,none⟩),.map (some ml),.func (.func 139) #[] #[.pointer (some ⟨V.heap.size,0,none⟩)],.agg #[.int .i64 x.1.1.1,.int .u64 x.1.1.2],.agg (Xy x).cells,undef,undef,undef,undef,undef,undef,undef,undef,undef],defers:=[] })
   (fun x a' _ X Y row hs hgr hr=>by obtain⟨Bx,Bt,h2,h2',h3⟩:=hs;exact⟨Bx,Bt,X6 Bx 114 (fun(_:Unit)=>#[.int .i64 x.1.1.1,.int .u64 x.1.1.2]) () X Y row h2 hgr (fun r e=>(hr r e).2),X6 Bt 131 (fun(_:Unit)=>(Xy x).cells) () X Y row h2' hgr (fun r e=>(hr r e).2),h3⟩)
   ?assign2 ?body2 ?done2 ?stop2
  case assign2 =>
   rintro ll pre x V' K ⟨⟨hJ1,cx1⟩,hDV⟩ hK
   have e2:x.1.2=.agg (Xy x).cells:=by rw [<- (Zl x).2];rfl
   rw [e2];unfold nmV;simp only [Xd.cells] at hK ⊢
   gi_wp2
   exact hK _ _ (((KeepsOthers.alloc _ _).from _).trans ((KeepsOthers.alloc _ _).from _)) ((KeepsT.alloc _ _).trans (KeepsT.alloc _ _)) ⟨⟨hJ _ _ _ none (hJ _ V' _ none hJ1 (World.grownBy_alloc V' _ none) (fun r e=>by cases e)) (World.grownBy_alloc _ _ none) (fun r e=>by cases e),cx1.keeps hg ((KeepsT.alloc _ _).trans (KeepsT.alloc _ _))⟩,(Below.heap_alloc _ _ D1 (by have:=(Array.getElem?_eq_some_iff.1 hDV).1;simp;omega)).trans ((Below.heap_alloc V' _ D1 (Array.getElem?_eq_some_iff.1 hDV).1).trans hDV)⟩ ⟨V'.heap.size,V'.heap.size+1,(BoxN.new V' 114 _).alloc _,by have h:=BoxN.new (V'.alloc (.cells #[.int .i64 x.1.1.1,.int .u64 x.1.1.2] 114)) 131 #[.int .i64 (Xy x).ak,.int .u64 (Xy x).au,.int .u64 (Xy x).at_,.int .i64 (Xy x).tr,.bool (Xy x).pd,.string ⟨(Xy x).pth.toArray⟩,.int .u64 (Xy x).last];rwa [World.size_alloc] at h,rfl⟩
  case body2 =>
   rintro ll pre x a' V hl ⟨r,hr⟩ ⟨⟨hJ1,cx1⟩,hD1⟩ ⟨Bx,Bt,bX,bT,rfl⟩ hlt';obtain⟨ht,hkx⟩:=Zl x
   obtain⟨lk,hlk⟩:∃ lk,Xy x=lk:=⟨_,rfl⟩
   rw [hlk] at ht hkx bT ⊢;obtain⟨x,hxm⟩:=x;simp only at hkx;subst hkx;obtain⟨hEV,h6V⟩:=hJE _ _ hJ1;have be:=bT;have cY:=cx1.by_.cell 0 (v:=.func (.yield l) #[] #[]) rfl;have cB:=cx1.bv.cell 0 (v:=.pointer (some ⟨vb,0,none⟩)) rfl;have cT:=cx1.v.cell 2 (v:=.int .u64 tm) rfl;have x0:=bX.cell 0 (v:=.int .i64 2) rfl;have x1:=bX.cell 1 (v:=.int .u64 (lk.n:Int)) rfl;have hinf:=Xjx Bt 2 lk.n lk.ak lk.au lk.at_ lk.tr lk.pd tm lk.pth (hok.limL lk ht).1 (hok.limL lk ht).2
   have h1n:1<=n-1-1:=by omega
   have hlenx:(tks.map Xe.info++pre.map fun x=>(Xy x).info tm).length<(Yi tm tks lks).length:=by simp [Yi] at hlt' ⊢;omega
   have hcall:∀ V1,Below V.heap.size V V1->CallsIn Fence.wide (n-1-1-1) prog 82 #[.pointer (some ⟨Bt,0,none⟩),.agg #[.int .i64 2,.int .u64 (lk.n:Int)],.int .u64 tm] V1 fun e V2=>e=.returned (.agg (InfoD.cells (lk.info tm)))/\Below V.heap.size V V2 /\
     Uy (n-1-1-1) prog l #[.agg (InfoD.cells (lk.info tm))] V2 (fun e W'=>∃ bb:Bool,e=.returned (.bool bb)/\KeepsFrom W.heap.size V2 W'/\(bb=true->J ((tks.map Xe.info++pre.map fun x=>(Xy x).info tm) ++ [lk.info tm]) W'/\KeepsT bad V2 W')/\(bb=false->Jx ((tks.map Xe.info++pre.map fun x=>(Xy x).info tm) ++ [lk.info tm]) W')):=fun V1 hb1=>by
    have be1:=be.below hb1 be.lt;refine(callsIn_wide.2 ((hinf V1 (hEV.below hb1 h6V) (Nat.le_trans h6V hb1.size) (be1.cell 0 rfl) (be1.cell 1 rfl) (be1.cell 2 rfl) (be1.cell 3 rfl) (be1.cell 4 rfl) (be1.cell 5 rfl)).mono ?_));rintro e V2 ⟨rfl,hb2⟩;have hbV:=hb1.trans (hb2.mono hb1.size);refine⟨rfl,hbV,?_⟩;have hJ2:=hJ _ V V2 none hJ1 (Zv hbV) (fun r e=>by cases e);refine Uy.of (hY _ (lk.info tm) V2 hJ2 hlenx) ?_;rintro e W' (⟨rfl,h1,h2,h3⟩ | ⟨rfl,h1,h3⟩)
    ·exact⟨true,rfl,h3,(fun _=>⟨h1,h2⟩),(fun h=>by cases h)⟩
    ·exact⟨false,rfl,h3,(fun h=>by cases h),fun _=>h1⟩
   generalize InfoD.cells (lk.info tm)=ic at *;have hfi:Fence.wide.fn 82:=trivial;simp only [Xd.key]
   gi_wp2_with fail
   refine wpIn_region_any (by kernel_rfl) (Xx ll (by kernel_rfl) _ _ _ _ ?_)
   change wpAnyIn _ _ _ _ _ _ _ _ _ (World.drew _)
   refine wpAnyIn_ready (rs:=[0,1,2]) (by kernel_rfl) (by simp) ?_;refine AllReadyIn.cons rfl (fun K hK=>?_) (AllReadyIn.cons rfl (fun K hK=>?_) (AllReadyIn.cons rfl (fun K hK=>?_) (AllReadyIn.nil)))
   focus
    go_simp;refine hK _ _ ?_;clear hK K;refine Xs 1 2 rfl rfl (fun K hK=>?_) fun K hK=>?_
    focus
     go_simp;refine hK _ _ ?_;clear hK K;refine Xr 2 rfl fun K hK=>?_;go_simp;refine hK _ _ ?_;clear hK K;refine Xv 3 (.pointer (some ⟨vb,0,none⟩)) rfl ?_
     refine Xv 4 (.pointer (some ⟨vb,2,none⟩)) rfl ?_
     refine wpAnyIn_ready (rs:=[5]) (by kernel_rfl) (by simp) ?_
    rotate_left
    focus
     go_simp;refine hK _ _ ?_;clear hK K;refine Xv 3 (.pointer (some ⟨vb,0,none⟩)) rfl ?_
     refine Xv 4 (.pointer (some ⟨vb,2,none⟩)) rfl ?_
     refine Xs 1 5 rfl rfl (fun K hK=>?_) fun K hK=>?_
     focus
      go_simp;refine hK _ _ ?_;clear hK K;refine wpAnyIn_ready (rs:=[5]) (by kernel_rfl) (by simp) ?_
     rotate_left
     focus
      go_simp;refine hK _ _ ?_;clear hK K;refine wpAnyIn_ready (rs:=[1]) (by kernel_rfl) (by simp) ?_
     rotate_left
    rotate_left 2
    all_goals
     refine AllReadyIn.cons rfl (fun K hK=>?_) (AllReadyIn.nil);go_simp;refine hK _ _ ?_;clear hK K;refine Xr 6 rfl fun K hK=>?_;go_simp;refine(hcall _ (Xz.below (Xz.refl V).drew)).mono ?_;rintro e V2 ⟨rfl,hbV,fn,tmps,assign,body,hy,hR⟩;have cY2:=cell_later hbV cY
   rotate_left 3
   focus
    go_simp;refine hK _ _ ?_;clear hK K;refine Xs 0 2 rfl rfl (fun K hK=>?_) fun K hK=>?_
    focus
     go_simp;refine hK _ _ ?_;clear hK K;refine Xr 2 rfl fun K hK=>?_;go_simp;refine hK _ _ ?_;clear hK K;refine Xv 3 (.pointer (some ⟨vb,0,none⟩)) rfl ?_
     refine Xv 4 (.pointer (some ⟨vb,2,none⟩)) rfl ?_
     refine Xr 5 rfl fun K hK=>?_;go_simp;refine hK _ _ ?_;clear hK K;refine Xr 6 rfl fun K hK=>?_;go_simp;refine(hcall _ (Xz.below (Xz.refl V).drew)).mono ?_;rintro e V2 ⟨rfl,hbV,fn,tmps,assign,body,hy,hR⟩;have cY2:=cell_later hbV cY
    rotate_left
    focus
     go_simp;refine hK _ _ ?_;clear hK K;refine Xv 3 (.pointer (some ⟨vb,0,none⟩)) rfl ?_
     refine Xv 4 (.pointer (some ⟨vb,2,none⟩)) rfl ?_
     refine Xs 0 5 rfl rfl (fun K hK=>?_) fun K hK=>?_
     focus
      go_simp;refine hK _ _ ?_;clear hK K;refine Xr 5 rfl fun K hK=>?_;go_simp;refine hK _ _ ?_;clear hK K;refine Xr 6 rfl fun K hK=>?_;go_simp;refine(hcall _ (Xz.below (Xz.refl V).drew)).mono ?_;rintro e V2 ⟨rfl,hbV,fn,tmps,assign,body,hy,hR⟩;have cY2:=cell_later hbV cY
     rotate_left
     focus
      go_simp;refine hK _ _ ?_;clear hK K;refine Xs 0 6 rfl rfl (fun K hK=>?_) fun K hK=>?_
      focus
       go_simp;refine hK _ _ ?_;clear hK K;refine Xr 6 rfl fun K hK=>?_;go_simp;refine(hcall _ (Xz.below (Xz.refl V).drew)).mono ?_;rintro e V2 ⟨rfl,hbV,fn,tmps,assign,body,hy,hR⟩;have cY2:=cell_later hbV cY
      rotate_left
      focus
       go_simp;refine(hcall _ (Xz.below (Xz.refl V).drew)).mono ?_;rintro e V2 ⟨rfl,hbV,fn,tmps,assign,body,hy,hR⟩;have cY2:=cell_later hbV cY;refine hK _ _ ?_;clear hK K;refine Xr 0 rfl fun K hK=>?_;go_simp
      rotate_left
     rotate_left 2
    rotate_left 3
   rotate_left 4
   focus
    go_simp;refine hK _ _ ?_;clear hK K;refine Xv 3 (.pointer (some ⟨vb,0,none⟩)) rfl ?_
    refine Xv 4 (.pointer (some ⟨vb,2,none⟩)) rfl ?_
    refine wpAnyIn_ready (rs:=[0,1,5]) (by kernel_rfl) (by simp) ?_;refine AllReadyIn.cons rfl (fun K hK=>?_) (AllReadyIn.cons rfl (fun K hK=>?_) (AllReadyIn.cons rfl (fun K hK=>?_) (AllReadyIn.nil)))
    focus
     go_simp;refine hK _ _ ?_;clear hK K;refine Xs 1 5 rfl rfl (fun K hK=>?_) fun K hK=>?_
     focus
      go_simp;refine hK _ _ ?_;clear hK K;refine wpAnyIn_ready (rs:=[5]) (by kernel_rfl) (by simp) ?_
     rotate_left
     focus
      go_simp;refine hK _ _ ?_;clear hK K;refine wpAnyIn_ready (rs:=[1]) (by kernel_rfl) (by simp) ?_
     rotate_left
     all_goals
      refine AllReadyIn.cons rfl (fun K hK=>?_) (AllReadyIn.nil);go_simp;refine hK _ _ ?_;clear hK K;refine Xr 6 rfl fun K hK=>?_;go_simp;refine(hcall _ (Xz.below (Xz.refl V).drew)).mono ?_;rintro e V2 ⟨rfl,hbV,fn,tmps,assign,body,hy,hR⟩;have cY2:=cell_later hbV cY
    rotate_left 2
    focus
     go_simp;refine hK _ _ ?_;clear hK K;refine Xs 0 5 rfl rfl (fun K hK=>?_) fun K hK=>?_
     focus
      go_simp;refine hK _ _ ?_;clear hK K;refine Xr 5 rfl fun K hK=>?_;go_simp;refine hK _ _ ?_;clear hK K;refine Xr 6 rfl fun K hK=>?_;go_simp;refine(hcall _ (Xz.below (Xz.refl V).drew)).mono ?_;rintro e V2 ⟨rfl,hbV,fn,tmps,assign,body,hy,hR⟩;have cY2:=cell_later hbV cY
     rotate_left
     focus
      go_simp;refine hK _ _ ?_;clear hK K;refine Xs 0 6 rfl rfl (fun K hK=>?_) fun K hK=>?_
      focus
       go_simp;refine hK _ _ ?_;clear hK K;refine Xr 6 rfl fun K hK=>?_;go_simp;refine(hcall _ (Xz.below (Xz.refl V).drew)).mono ?_;rintro e V2 ⟨rfl,hbV,fn,tmps,assign,body,hy,hR⟩;have cY2:=cell_later hbV cY
      rotate_left
      focus
       go_simp;refine(hcall _ (Xz.below (Xz.refl V).drew)).mono ?_;rintro e V2 ⟨rfl,hbV,fn,tmps,assign,body,hy,hR⟩;have cY2:=cell_later hbV cY;refine hK _ _ ?_;clear hK K;refine Xr 0 rfl fun K hK=>?_;go_simp
      rotate_left
     rotate_left 2
    rotate_left 3
    focus
     go_simp;refine hK _ _ ?_;clear hK K;refine Xs 0 1 rfl rfl (fun K hK=>?_) fun K hK=>?_
     focus
      go_simp;refine hK _ _ ?_;clear hK K;refine Xr 1 rfl fun K hK=>?_;go_simp;refine hK _ _ ?_;clear hK K;refine Xr 6 rfl fun K hK=>?_;go_simp;refine(hcall _ (Xz.below (Xz.refl V).drew)).mono ?_;rintro e V2 ⟨rfl,hbV,fn,tmps,assign,body,hy,hR⟩;have cY2:=cell_later hbV cY
     rotate_left
     focus
      go_simp;refine hK _ _ ?_;clear hK K;refine Xs 0 6 rfl rfl (fun K hK=>?_) fun K hK=>?_
      focus
       go_simp;refine hK _ _ ?_;clear hK K;refine Xr 6 rfl fun K hK=>?_;go_simp;refine(hcall _ (Xz.below (Xz.refl V).drew)).mono ?_;rintro e V2 ⟨rfl,hbV,fn,tmps,assign,body,hy,hR⟩;have cY2:=cell_later hbV cY
      rotate_left
      focus
       go_simp;refine(hcall _ (Xz.below (Xz.refl V).drew)).mono ?_;rintro e V2 ⟨rfl,hbV,fn,tmps,assign,body,hy,hR⟩;have cY2:=cell_later hbV cY;refine hK _ _ ?_;clear hK K;refine Xr 0 rfl fun K hK=>?_;go_simp
      rotate_left
     rotate_left 2
    rotate_left 3
   rotate_left 8
   all_goals
    refine hK _ _ ?_;clear hK K;refine Xr 7 rfl fun K hK=>?_;go_simp;refine RoundIn.mono hR ?_;rintro e W3 ⟨bb,rfl,hKF,hT,hF⟩;refine hK _ _ ?_;clear hK K;refine Xr 8 rfl fun K hK=>?_;go_simp;refine hK _ _ ?_;clear hK K;refine wpAnyIn_done (by kernel_rfl) ?_ _;have hKA:=(Y4 W.heap.size hbV).trans hKF;have hD3:=hKA.same D1 _ (by omega) hD1 rfl
    cases bb with
    | true =>
     obtain⟨hJ4,hkt⟩:=hT rfl;have hktA:=(KeepsT.below (bad:=bad) hbV).trans hkt
     gi_wp2
     exact⟨Ys hKA (by omega),hktA,⟨(show J (tks.map Xe.info++(pre ++ [(⟨lk.key,hxm⟩:{ p // p∈lks.map Xd.key })]).map fun x=>(Xy x).info tm) W3 by rw [List.map_append,List.map_singleton,hlk,<- List.append_assoc];exact hJ4),cx1.keeps hg hktA⟩,hD3⟩
    | false =>
     have hx4:=hF rfl
     gi_wp2
     exact⟨Ys hKA (by omega),rfl,(show Jx (tks.map Xe.info++(pre ++ [(⟨lk.key,hxm⟩:{ p // p∈lks.map Xd.key })]).map fun x=>(Xy x).info tm) W3 by rw [List.map_append,List.map_singleton,hlk,<- List.append_assoc];exact hx4),hD3⟩
  case done2 =>
   rintro D2 ys V' hD2' rfl ⟨⟨hJ1,cx1⟩,hDV⟩ hK
   gi_wp2
   have hKd:(V'.putObj D2 (.deferred none)).heap[D1]? = some (.deferred (some [])):=(World.putObj_heap_other (by omega)).trans hDV;refine⟨by simp,.inl ⟨_,_,rfl,run_takeDeferred hK,⟨by simp,.inl ⟨_,_,rfl,run_takeDeferred hKd,?_⟩⟩⟩⟩
   have e:((lks.map Xd.key).attach.map fun x=>(Xy x).info tm)=lks.map (Xd.info tm):=by
    have:=congrArg (List.map (Xd.info tm)) (Uf hok.incL);rw [List.map_map] at this;exact this
   rw [e] at hJ1;have j1:=hJ _ V' _ (some D2) hJ1 (grownBy_putObj' V' D2 (.deferred none)) (fun r e=>by cases e;exact⟨by omega,_,hK,rfl⟩);have j2:=hJ _ _ _ (some D1) j1 (grownBy_putObj' _ D1 (.deferred none)) (fun r e=>by cases e;exact⟨by omega,_,hKd,rfl⟩);exact⟨_,results_none rfl _ _ _,⟨_,rfl⟩,.inl ⟨_,rfl,j2⟩⟩
  case stop2 =>
   rintro D2 c pre V' hD2' hp ⟨rfl,hx,hDV⟩ hK
   gi_wp2
   have hKd:(V'.putObj D2 (.deferred none)).heap[D1]? = some (.deferred (some [])):=(World.putObj_heap_other (by omega)).trans hDV;refine⟨by simp,.inl ⟨_,_,rfl,run_takeDeferred hK,⟨by simp,.inl ⟨_,_,rfl,run_takeDeferred hKd,?_⟩⟩⟩⟩;have j1:=hJx _ V' _ (some D2) hx (grownBy_putObj' V' D2 (.deferred none)) (fun r e=>by cases e;exact⟨by omega,_,hK,rfl⟩);have j2:=hJx _ _ _ (some D1) j1 (grownBy_putObj' _ D1 (.deferred none)) (fun r e=>by cases e;exact⟨by omega,_,hKd,rfl⟩)
   have e:((lks.map Xd.key).attach.map fun x=>(Xy x).info tm)=lks.map (Xd.info tm):=by
    have:=congrArg (List.map (Xd.info tm)) (Uf hok.incL);rw [List.map_map] at this;exact this
   exact⟨_,results_none rfl _ _ _,⟨_,rfl⟩,.inr ⟨_,by unfold Yi;rw [<- e];exact List.prefix_append_right_inj _ |>.2 (hp.map _),j2⟩⟩
 case stop =>
  rintro D c pre V hDW hp ⟨rfl,hx⟩ hK
  gi_wp2
  refine⟨by simp,.inl ⟨_,_,rfl,run_takeDeferred hK,?_⟩⟩;have j1:=hJx _ V _ (some D) hx (grownBy_putObj' V D (.deferred none)) (fun r e=>by cases e;exact⟨by omega,_,hK,rfl⟩)
  have e:((tks.map Xe.key).attach.map fun x=>(X3 x).info)=tks.map Xe.info:=by
   have:=congrArg (List.map Xe.info) (Ua hok.incT);rw [List.map_map] at this;exact this
  exact⟨_,results_none rfl _ _ _,⟨_,rfl⟩,.inr ⟨_,by unfold Yi;rw [<- e];exact(hp.map _).trans (List.prefix_append _ _),j1⟩⟩
theorem Tryz.Xls (n:Nat) (hn:6<=n) (bad:TypeId->Bool) (hg:Good bad) (Bv vb mt ml:Nat) (vx:VX) (tm tn ln:Int) (tks:List Xe) (lks:List Xd) (hok:X5 tks lks) (w:World)
  (hbv:BoxN w Bv 76 #[.pointer (some ⟨vb,0,none⟩)]) (hv:BoxN w vb 126 (Yp vx tm mt ml tn ln)) (hh:Ui w mt ml tks lks) :
  Xny n prog 78 #[.pointer (some ⟨Bv,0,none⟩)] (fun x:InfoD=>#[.agg x.cells]) (fun V=>Env V/\6<=V.heap.size) (KeepsT bad) (fun xs=>xs=Yi tm tks lks) (fun pre=>pre <+: Yi tm tks lks) (Yi tm tks lks).length w:=
 fun l J Jx W hW hJ hJx hJE hY h0=>Xk9 n hn bad hg l Bv vb mt ml vx tm tn ln tks lks hok J Jx W (hJE _ _ h0).1 (hJE _ _ h0).2 hJ hJx hJE hY (hbv.below hW hbv.lt) (hv.below hW hv.lt) (hh.keeps (KeepsT.below (bad:=bad) hW)) h0
theorem Tryz.vAll (vb:Nat) (w:World) :
  Calls prog 48 #[.pointer (some ⟨vb,0,none⟩)] w fun e w'=>e=.returned (.func (.func 78) #[] #[.pointer (some ⟨w.heap.size,0,none⟩)])/\w'=w.alloc (.cells #[.pointer (some ⟨vb,0,none⟩)] 76):=by
 go_enter func48,ntmps48;go_wp2;go_ret;exact⟨rfl,rfl⟩
theorem Tryz.Xl3:∀ args w,(callFunc 78 args).run prog w=.ok (.enter 78 args) w:=enters_of func78 (by kernel_rfl) rfl
end Go.Proofs
