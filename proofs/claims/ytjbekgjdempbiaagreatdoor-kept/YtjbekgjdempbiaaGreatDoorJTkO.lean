import Derived.Test.YtjbekgjdempbiaaGreatDoorJSq
import Derived.Test.YtjbekgjdempbiaaGreatDoorJTkI
import Derived.Defers
set_option maxRecDepth 100000
set_option maxHeartbeats 8000000
namespace Go.Proofs
open Go.RowKit Go.Sort Go.Lib Go.Shelf Go.Maps Go.WideMaps
attribute [local go_sem] Oper.semAt_some
theorem Spares.M9 {bad:TypeId->Bool} {bs:List Nat} {W W':World} (hS:Spares bs W W') (hbs:∀ b∈bs,∃ t cs,BoxN W b t cs/\bad t=true):KeepsT bad W W':=
 ⟨hS.size,fun k o hk hs=>by
  by_cases hm:k∈bs
  ·obtain⟨t,cs,hB,hb⟩:=hbs k hm
   rw [show W.heap[k]? = _ from hB] at hk;cases hk;simp [Xdh,hb] at hs
  exact(hS.block k (Array.getElem?_eq_some_iff.1 hk).1 hm).trans hk⟩
theorem Spares.Jm {bs:List Nat} {W W':World} (hS:Spares bs W W') (hbs:∀ b∈bs,∃ t cs,BoxN W b t cs) (B:Nat):KeepsFrom B W W':=
 ⟨hS.size,fun k o _ hk hs=>by
  by_cases hm:k∈bs
  ·obtain⟨t,cs,hB⟩:=hbs k hm
   rw [show W.heap[k]? = _ from hB] at hk;cases hk;cases hs
  exact(hS.block k (Array.getElem?_eq_some_iff.1 hk).1 hm).trans hk⟩
def Tryz.Xo7 (t:TypeId):Bool:=t==126||t==144
theorem Tryz.QAt.lea {B:Nat} {w V:World} {k:Blk} {vx:VX} {tm:Int} {s:VSt} {c:List UInt8} {l f:Int} {rb:Nat} {fl:Int} {v:Value} {xs:List Value} {zs:List Xe} (h:QAt B w k vx tm s c l f rb fl v xs zs V) (hz:zs.length<=100) (t:Xe) :
  Calls prog 131 #[.pointer (some ⟨k.vb,8,none⟩),.agg t.cells] V fun e V'=>e=.returned (.tuple #[])/\QAt B w k vx tm s c l f rb fl v xs (zs ++ [t]) V'/\∃ bs,Spares bs V V'/\∀ b∈bs,∃ t cs,BoxN V b t cs/\(t=126\/t=144):=by
 obtain⟨vx',q,h1,h2,h3,h4,h5,h6⟩:=h;refine(Xup B k.vb vx'.due q.length q (Y8 vx' tm k.mt k.ml s.tn s.ln) t V h2.wh.v.va.v rfl h2.due h2.hp h2.bw (by rw [h1.length_eq];exact hz)).mono ?_;rintro e V' ⟨rfl,g,cap,ys,hq,hH,hpm,hg,hs⟩;refine⟨rfl,h2.Xsh h1 h3 h4 h5 h6 hq hH hpm hg hs,_,hs,fun b hb=>?_⟩
 rcases List.mem_cons.1 hb with rfl | hb
 ·exact⟨_,_,h2.wh.v.va.v,.inl rfl⟩
 obtain⟨-,cs,hB⟩:=Xm h2.due (g:=b) (by simpa using hb);exact⟨_,_,hB,.inr rfl⟩
theorem Y0 {α β:Type} (f:α->List β) (hf:∀ x,(f x).length<=1):∀ pre:List α,(pre.flatMap f).length<=pre.length
 | []=>by simp
 | a :: pre=>by
  have:=Y0 f hf pre;have:=hf a;rw [List.flatMap_cons,List.length_append,List.length_cons];omega
theorem Tryz.Xp3 (B:Nat) (k:Blk) (vx:VX) (tm:Int) (s:VSt) (c:List UInt8) (l f:Int) (rb:Nat) (fl:Int) (v:Value) (xs:List Value) (w:World) (h:TAt B w k vx tm s c l f rb fl v xs []) (h50:s.tks.length+s.lks.length<=50) :
  CallsIn Fence.wide 9 prog 75 #[.pointer (some ⟨k.vb,0,none⟩)] w fun e w'=>e=.returned (.tuple #[])/\QAt B w k vx tm s c l f rb fl v xs (s.tks.flatMap (Yv s tm)++s.lks.flatMap (Zw tm)) w':=by
 have hfw:Fence.wide.fn 79:=trivial;have hfw2:Fence.wide.fn 81:=trivial;have v1:=h.wh.v.va.v.cell 3 (v:=.map (some k.mt)) rfl;have lv:=h.wh.v.va.v.lt;refine callsIn_of_wp_marks func75 rfl trivial ?_ rfl;simp only [ntmps75,List.size_toArray,List.length_cons,List.length_nil,Nat.reduceAdd,Nat.reduceSub,Array.replicate_succ,Array.replicate_zero,List.push_toArray,List.append_toArray,List.nil_append,List.cons_append]
 gi_wp2_with (gi_at_call 79;refine(callsIn_wide.2 (Xh3 (some k.mt) _)).mono ?_;rintro e w' ⟨rfl,rfl⟩)
 obtain⟨kT,sT⟩:=h.wh.v.va.ok.ksT;obtain⟨nT,hnT,mT⟩:=h.wh.v.va.held.mapT;obtain⟨n2,-,m2⟩:=h.wh.v.va.held.mapL;obtain⟨fd0,fn0,hd0,-,-⟩:=h.wh.d;obtain⟨n3,-,m3⟩:=hd0.dm;obtain⟨n4,-,m4⟩:=hd0.nm
 have hw:k.mt<w.heap.size/\k.ml<w.heap.size/\k.md<w.heap.size/\k.mn<w.heap.size/\6<=w.heap.size:=⟨mT.lt,m2.lt,m3.lt,m4.lt,h.wh.v.va.six⟩
 have bB:=(BoxN.new w 76 #[.pointer (some ⟨k.vb,0,none⟩)]).alloc (.cells #[.map (some k.mt)] 120);have bM:=BoxN.new (w.alloc (.cells #[.pointer (some ⟨k.vb,0,none⟩)] 76)) 120 #[.map (some k.mt)];have hB0:Below w.heap.size w ((w.alloc (.cells #[.pointer (some ⟨k.vb,0,none⟩)] 76)).alloc (.cells #[.map (some k.mt)] 120)):=((Below.refl _ w).alloc (Nat.le_refl _) _).alloc (by simp) _;have mT0:=(KeepsT.below (bad:=Xo7) hB0).map mT
 have hsz:((w.alloc (.cells #[.pointer (some ⟨k.vb,0,none⟩)] 76)).alloc (.cells #[.map (some k.mt)] 120)).heap.size=w.heap.size+2:=by simp
 rw [World.size_alloc] at bM
 have hQ0:QAt B w k vx tm s c l f rb fl v xs [] ((w.alloc (.cells #[.pointer (some ⟨k.vb,0,none⟩)] 76)).alloc (.cells #[.map (some k.mt)] 120)):=⟨vx,[],List.Perm.refl _,h.below hB0,rfl,rfl,fun d hd=>.inl hd,Spares.of_below hB0⟩
 obtain⟨W0,hW0⟩:∃ W0,(w.alloc (.cells #[.pointer (some ⟨k.vb,0,none⟩)] 76)).alloc (.cells #[.map (some k.mt)] 120)=W0:=⟨_,rfl⟩
 rw [hW0] at bB bM hB0 mT0 hsz hQ0 ⊢;have hokT:=h.wh.v.va.ok;clear hW0 h hd0 m2 m3 m4 mT v1
 refine wpIn_rangeFunc_ownH rfl (by omega) (gf:=136) (lb:=#[.pointer (some ⟨w.heap.size+1,0,none⟩)]) rfl trivial Xcs
  (Vk 8 (by omega) Xo7 (by decide) (by decide) (w.heap.size+1) k.mt nT (s.tks.map Xd.key) kT sT (by have:=hokT.lenT;simp;omega) (Xd.sh s.tks) W0 bM mT0) Js Jo (Below.refl _ _) (fun _=>rfl)
  (fun pre V=>QAt B w k vx tm s c l f rb fl v xs (pre.flatMap fun x=>Yv s tm (X7 x)) V/\BoxN V w.heap.size 76 #[.pointer (some ⟨k.vb,0,none⟩)])
  (fun _ _ _=>False)
  (fun pre X Y row hs hgr hr=>⟨hs.1.own hw hgr (fun r e=>⟨by have:=(hr r e).1;omega,(hr r e).2⟩),Xy w.heap.size 76 (fun(_:Unit)=>#[.pointer (some ⟨k.vb,0,none⟩)]) () X Y row hs.2 hgr (fun r e=>(hr r e).2)⟩)
  (fun _ _ _ _ _ hs _ _=>hs)
  ⟨hQ0,bB⟩
  (fun x a' V=>∃ Bx,BoxN V Bx 114 #[.int .i64 x.1.1.1,.int .u64 x.1.1.2]/\a' = { tmps:=#[.pointer (some ⟨k.vb,0,none⟩),.pointer (some ⟨w.heap.size,0,none⟩),.pointer (some ⟨Bx,0,none⟩),undef,undef,.pointer (some ⟨k.vb,0,none⟩),.pointer (some ⟨k.vb,0,none⟩),.pointer (some ⟨k.vb,3,none⟩),.map (some k.mt),.func (.func 136) #[] #[.pointer (some ⟨w.heap.size+1,0,none⟩)],.agg #[.int .i64 x.1.1.1,.int .u64 x.1.1.2],.agg (X7 x).cells,undef,undef,undef,undef,undef,undef,undef,undef,undef,undef,undef,undef,undef,undef,undef,undef,undef,undef,undef,undef,undef,undef,undef,undef,undef,undef,undef],defers:=[] })
  (fun x a' _ X Y row hs hgr hr=>by obtain⟨Bx,h2,h3⟩:=hs;exact⟨Bx,Xy Bx 114 (fun(_:Unit)=>#[.int .i64 x.1.1.1,.int .u64 x.1.1.2]) () X Y row h2 hgr (fun r e=>(hr r e).2),h3⟩)
  ?assign ?body ?done ?stop
 case assign =>
  rintro ll pre x V K ⟨hJ1,bV⟩ hK
  have e2:x.1.2=.agg (X7 x).cells:=by rw [<- (Jc x).2];rfl
  rw [e2];unfold nmV
  gi_wp2
  exact hK _ _ ((KeepsOthers.alloc _ _).from _) (KeepsT.alloc _ _) ⟨hJ1.below ((Below.refl _ V).alloc (Nat.le_refl _) _),bV.alloc _⟩ ⟨V.heap.size,BoxN.new V 114 _,rfl⟩
 case body =>
  rintro ll pre x a' V hl ⟨r,hr⟩ ⟨hJ1,bV⟩ ⟨Bx,bX,rfl⟩ hlt';obtain⟨ht,hkx⟩:=Jc x
  have hzl:(pre.flatMap fun x=>Yv s tm (X7 x)).length<=100:=by
   have:=Y0 (fun x=>Yv s tm (X7 x)) (fun x=>by unfold Yv;split <;> simp) pre;simp at hlt';omega
  have hJ2:∀ V2,QAt B w k vx tm s c l f rb fl v xs ((pre.flatMap fun x=>Yv s tm (X7 x))++Yv s tm (X7 x)) V2->QAt B w k vx tm s c l f rb fl v xs ((pre ++ [x]).flatMap fun x=>Yv s tm (X7 x)) V2:=fun V2 h=>by simpa using h
  obtain⟨tk,htk⟩:∃ tk,X7 x=tk:=⟨_,rfl⟩
  rw [htk] at ht hkx hJ2 ⊢;obtain⟨x,hxm⟩:=x;simp only at hkx;subst hkx;have hq:=hJ1.tok hzl tk ht;have x0:=bX.cell 0 (v:=.int .i64 1) rfl;have x1:=bX.cell 1 (v:=.int .u64 (tk.n:Int)) rfl;have cB:=bV.cell 0 (v:=.pointer (some ⟨k.vb,0,none⟩)) rfl;unfold nmV at hq;have hfq:Fence.wide.fn 130:=trivial;simp only [Xd.key]
  gi_wp2_with (gi_at_call 130;refine(callsIn_wide.2 hq).mono ?_;rintro e V2 ⟨rfl,hQ2,bs,hsp,hbs⟩)
  refine⟨hsp.Jm (fun b hb=>by obtain⟨t,cs,h1,-⟩:=hbs b hb;exact⟨t,cs,h1⟩) _,hsp.M9 (fun b hb=>by obtain⟨t,cs,h1,h2⟩:=hbs b hb;exact⟨t,cs,h1,by rcases h2 with rfl | rfl <;> decide⟩),hJ2 _ hQ2,hsp.box bV (fun hm=>by obtain⟨t,cs,h1,h2⟩:=hbs _ hm;rcases h2 with rfl | rfl <;> exact bV.ne h1 (by decide) rfl)⟩
 case done =>
  rintro D1 zs V hD hzs ⟨hI,bV⟩ hD1;have hD1lt:=(Array.getElem?_eq_some_iff.1 hD1).1
  have hzs':(zs.flatMap fun x=>Yv s tm (X7 x))=s.tks.flatMap (Yv s tm):=by
   rw [hzs]
   conv=>rhs;rw [<- Mf hokT.incT]
   rw [List.flatMap_map]
  rw [hzs'] at hI;clear hzs hzs';obtain⟨vx1,q1,h1,h2,h3,h4,h5,h6⟩:=hI;have cB:=bV.cell 0 (v:=.pointer (some ⟨k.vb,0,none⟩)) rfl;have v2:=h2.wh.v.va.v.cell 4 (v:=.map (some k.ml)) rfl;have lvV:=h2.wh.v.va.v.lt
  gi_wp2_with (gi_at_call 81;refine(callsIn_wide.2 (Xd3 (some k.ml) _)).mono ?_;rintro e w' ⟨rfl,rfl⟩)
  clear v2 cB;obtain⟨kL,sL⟩:=hokT.ksL;obtain⟨nL,hnL,mL⟩:=h2.wh.v.va.held.mapL;have bM2:=BoxN.new V 121 #[.map (some k.ml)];have hB1:Below V.heap.size V (V.alloc (.cells #[.map (some k.ml)] 121)):=(Below.refl _ V).alloc (Nat.le_refl _) _;have mL1:=(KeepsT.below (bad:=Xo7) hB1).map mL;have hD2:(V.alloc (.cells #[.map (some k.ml)] 121)).heap[D1]? = some (.deferred (some [])):=(hB1.block D1 hD1lt).trans hD1
  have hs1:(V.alloc (.cells #[.map (some k.ml)] 121)).heap.size=V.heap.size+1:=by simp
  have hbx:=bV.below hB1 bV.lt
  have hQ1:QAt B w k vx tm s c l f rb fl v xs (s.tks.flatMap (Yv s tm)) V:=⟨vx1,q1,h1,h2,h3,h4,h5,h6⟩
  have hQ2:=hQ1.below hB1;have hsV:=h6.size;have hlT:=Y0 (Yv s tm) (fun x=>by unfold Yv;split <;> simp) s.tks
  obtain⟨V1,hVe⟩:∃ V1,V.alloc (.cells #[.map (some k.ml)] 121)=V1:=⟨_,rfl⟩
  rw [hVe] at bM2 hB1 mL1 hD2 hs1 hbx hQ2 ⊢;clear hVe hQ1 h2 h1 h3 h4 h5 h6 bV hD1 mL
  refine wpIn_rangeFunc_ownH rfl (by omega) (gf:=139) (lb:=#[.pointer (some ⟨V.heap.size,0,none⟩)]) rfl trivial Xaj
   (J5 8 (by omega) Xo7 (by decide) (by decide) V.heap.size k.ml nL (s.lks.map Xc.key) kL sL (by have:=hokT.lenL;simp;omega) (Xc.sh s.lks) V1 bM2 mL1) Js Jo (Below.refl _ _) (fun _=>rfl)
   (fun pre X=>(QAt B w k vx tm s c l f rb fl v xs (s.tks.flatMap (Yv s tm)++pre.flatMap fun x=>Zw tm (Xl x)) X/\BoxN X w.heap.size 76 #[.pointer (some ⟨k.vb,0,none⟩)])/\X.heap[D1]? = some (.deferred (some [])))
   (fun _ _ _=>False)
   (fun pre X Y row hs hgr hr=>⟨⟨hs.1.1.own hw hgr (fun r e=>⟨by have:=(hr r e).1;omega,(hr r e).2⟩),Xy w.heap.size 76 (fun(_:Unit)=>#[.pointer (some ⟨k.vb,0,none⟩)]) () X Y row hs.1.2 hgr (fun r e=>(hr r e).2)⟩,Xhw (β:=Unit) D1 _ (by omega) () X Y row hs.2 hgr hr⟩)
   (fun _ _ _ _ _ hs _ _=>hs)
   ⟨⟨by simpa using hQ2,hbx⟩,hD2⟩
   (fun x a' X=>∃ Bx Bt,BoxN X Bx 114 #[.int .i64 x.1.1.1,.int .u64 x.1.1.2]/\BoxN X Bt 131 (Xl x).cells/\a' = { tmps:=#[.pointer (some ⟨k.vb,0,none⟩),.pointer (some ⟨w.heap.size,0,none⟩),undef,.pointer (some ⟨Bx,0,none⟩),.pointer (some ⟨Bt,0,none⟩),.pointer (some ⟨k.vb,0,none⟩),.pointer (some ⟨k.vb,0,none⟩),.pointer (some ⟨k.vb,3,none⟩),.map (some k.mt),.func (.func 136) #[] #[.pointer (some ⟨w.heap.size+1,0,none⟩)],undef,undef,undef,undef,undef,.pointer (some ⟨k.vb,0,none⟩),.pointer (some ⟨k.vb,0,none⟩),.pointer (some ⟨k.vb,4,none⟩),.map (some k.ml),.func (.func 139) #[] #[.pointer (some ⟨V.heap.size,0,none⟩)],.agg #[.int .i64 x.1.1.1,.int .u64 x.1.1.2],.agg (Xl x).cells,undef,undef,undef,undef,undef,undef,undef,undef,undef,undef,undef,undef,undef,undef,undef,undef,undef],defers:=[] })
   (fun x a' _ X Y row hs hgr hr=>by obtain⟨Bx,Bt,h2,h2',h3⟩:=hs;exact⟨Bx,Bt,Xy Bx 114 (fun(_:Unit)=>#[.int .i64 x.1.1.1,.int .u64 x.1.1.2]) () X Y row h2 hgr (fun r e=>(hr r e).2),Xy Bt 131 (fun(_:Unit)=>(Xl x).cells) () X Y row h2' hgr (fun r e=>(hr r e).2),h3⟩)
   ?assign2 ?body2 ?done2 ?stop2
  case assign2 =>
   rintro ll pre x X K ⟨⟨hJ1,bX1⟩,hDX⟩ hK
   have e2:x.1.2=.agg (Xl x).cells:=by rw [<- (Zf x).2];rfl
   rw [e2];unfold nmV;simp only [Xc.cells] at hK ⊢
   gi_wp2
   have hBB:Below X.heap.size X ((X.alloc (.cells #[.int .i64 x.1.1.1,.int .u64 x.1.1.2] 114)).alloc (.cells (Xl x).cells 131)):=((Below.refl _ X).alloc (Nat.le_refl _) _).alloc (by simp) _;refine hK _ _ (((KeepsOthers.alloc _ _).from _).trans ((KeepsOthers.alloc _ _).from _)) ((KeepsT.alloc _ _).trans (KeepsT.alloc _ _)) ⟨⟨hJ1.below hBB,(bX1.alloc _).alloc _⟩,(hBB.block D1 (Array.getElem?_eq_some_iff.1 hDX).1).trans hDX⟩ ⟨X.heap.size,X.heap.size+1,(BoxN.new X 114 _).alloc _,?_,?_⟩
   ·have:=BoxN.new (X.alloc (.cells #[.int .i64 x.1.1.1,.int .u64 x.1.1.2] 114)) 131 (Xl x).cells
    rwa [World.size_alloc] at this
   simp
  case body2 =>
   rintro ll pre x a' V hl ⟨r,hr⟩ ⟨⟨hJ1,bV⟩,hDX⟩ ⟨Bx,Bt,bX,bT,rfl⟩ hlt';obtain⟨ht,hkx⟩:=Zf x
   have hzl:(s.tks.flatMap (Yv s tm)++pre.flatMap fun x=>Zw tm (Xl x)).length<=100:=by
    have:=Y0 (fun x=>Zw tm (Xl x)) (fun x=>by unfold Zw;split <;> simp) pre;simp at hlt';rw [List.length_append];omega
   have hJ2:∀ V2,QAt B w k vx tm s c l f rb fl v xs ((s.tks.flatMap (Yv s tm)++pre.flatMap fun x=>Zw tm (Xl x))++Zw tm (Xl x)) V2->QAt B w k vx tm s c l f rb fl v xs (s.tks.flatMap (Yv s tm)++(pre ++ [x]).flatMap fun x=>Zw tm (Xl x)) V2:=fun V2 h=>by simpa using h
   obtain⟨tk,htk⟩:∃ tk,Xl x=tk:=⟨_,rfl⟩
   rw [htk] at ht hkx hJ2 bT ⊢;obtain⟨x,hxm⟩:=x;simp only at hkx;subst hkx
   have hVt:V.cell? ⟨k.vb,2,none⟩=some (.int .u64 tm):=by
    obtain⟨vx',q',-,h2,-⟩:=hJ1;exact h2.wh.v.va.v.cell 2 rfl
   have x0:=bX.cell 0 (v:=.int .i64 2) rfl;have x1:=bX.cell 1 (v:=.int .u64 (tk.n:Int)) rfl;have cB:=bV.cell 0 (v:=.pointer (some ⟨k.vb,0,none⟩)) rfl;have cT:=bT.cell 2 (v:=.int .u64 tk.at_) rfl;have hfp:Fence.wide.fn 131:=trivial
   by_cases hat:tk.at_<=tm
   ·have hcall:∀ m X,Below V.heap.size V X->CallsIn Fence.wide m prog 131 #[.pointer (some ⟨k.vb,8,none⟩),.agg #[.int .u64 tk.at_,.int .i64 2,.int .u64 (tk.n:Int)]] X fun e V3=>e=.returned (.tuple #[])/\KeepsFrom V1.heap.size V V3/\KeepsT Xo7 V V3/\QAt B w k vx tm s c l f rb fl v xs (s.tks.flatMap (Yv s tm)++(pre ++ [(⟨tk.key,hxm⟩:{ p // p∈s.lks.map Xc.key })]).flatMap fun x=>Zw tm (Xl x)) V3/\BoxN V3 w.heap.size 76 #[.pointer (some ⟨k.vb,0,none⟩)]/\V3.heap[D1]? = some (.deferred (some [])):=fun m X hbX=>by
     refine callsIn_wide.2 (((hJ1.below hbX).lea hzl ⟨tk.at_,2,tk.n⟩).mono ?_);rintro e V3 ⟨rfl,hQ3,bs,hsp,hbs⟩;have bVX:=bV.below hbX bV.lt;have kf:=(X0 0 hbX).trans (hsp.Jm (fun b hb=>by obtain⟨t,cs,h1,-⟩:=hbs b hb;exact⟨t,cs,h1⟩) 0);exact⟨rfl,Yk kf (Nat.zero_le _),(KeepsT.below hbX).trans (hsp.M9 (fun b hb=>by obtain⟨t,cs,h1,h2⟩:=hbs b hb;exact⟨t,cs,h1,by rcases h2 with rfl | rfl <;> decide⟩)),hJ2 _ (by rw [show Zw tm tk=([⟨tk.at_,2,tk.n⟩]:List Xe) from if_pos hat];exact hQ3),hsp.box bVX (fun hm=>by obtain⟨t,cs,h1,h2⟩:=hbs _ hm;rcases h2 with rfl | rfl <;> exact bVX.ne h1 (by decide) rfl),kf.same D1 _ (Nat.zero_le _) hDX rfl⟩
    clear hJ2 hJ1 hzl hokT hQ0 bB bM mT0 kT sT kL sL bM2 mL1 hB1 hQ2 hbx hD2 hB0 bT bX bV;simp only [Xc.key]
    gi_wp2_with fail
    refine wpIn_region_any (by kernel_rfl) (X2 ll (by kernel_rfl) _ _ _ _ ?_)
    change wpAnyIn _ _ _ _ _ _ _ _ _ (World.drew _)
    refine Xv 0 (.pointer (some ⟨Bt,0,none⟩)) rfl ?_
    refine Xv 1 (.pointer (some ⟨Bt,2,none⟩)) rfl ?_
    refine Xs 2 3 rfl rfl (fun K hK=>?_) fun K hK=>?_
    focus
     go_simp;refine hK _ _ ?_;clear hK K;refine Xr 3 rfl fun K hK=>?_;go_simp;refine hK _ _ ?_;clear hK K;refine Xv 4 (.pointer (some ⟨k.vb,0,none⟩)) rfl ?_
     refine Xv 5 (.pointer (some ⟨k.vb,2,none⟩)) rfl ?_
     refine Xr 6 rfl fun K hK=>?_;go_simp;refine hK _ _ ?_;clear hK K;refine Xv 7 (.bool true) rfl ?_
     refine wpAnyIn_done (by kernel_rfl) ?_ _
     gi_wp2_with fail
     refine wpIn_region_any (by kernel_rfl) (X2 ll (by kernel_rfl) _ _ _ _ ?_)
     change wpAnyIn _ _ _ _ _ _ _ _ _ (World.drew _)
     refine Xv 3 (.pointer (some ⟨Bt,0,none⟩)) rfl ?_
     refine Xv 4 (.pointer (some ⟨Bt,2,none⟩)) rfl ?_
     refine wpAnyIn_ready (rs:=[0,5,6]) (by kernel_rfl) (by simp) ?_;refine AllReadyIn.cons rfl (fun K hK=>?_) (AllReadyIn.cons rfl (fun K hK=>?_) (AllReadyIn.cons rfl (fun K hK=>?_) (AllReadyIn.nil)))
     focus
      go_simp;refine hK _ _ ?_;clear hK K;refine Xv 1 (.pointer (some ⟨k.vb,0,none⟩)) rfl ?_
      refine Xv 2 (.pointer (some ⟨k.vb,8,none⟩)) rfl ?_
      refine Xs 5 6 rfl rfl (fun K hK=>?_) fun K hK=>?_
      focus
       go_simp;refine hK _ _ ?_;clear hK K;refine Xr 6 rfl fun K hK=>?_;go_simp;refine hK _ _ ?_;clear hK K;refine Xv 7 (.agg #[.int .u64 tk.at_,.int .i64 2,.int .u64 (tk.n:Int)]) rfl ?_
      rotate_left
      focus
       go_simp;refine hK _ _ ?_;clear hK K;refine Xr 5 rfl fun K hK=>?_;go_simp;refine hK _ _ ?_;clear hK K;refine Xv 7 (.agg #[.int .u64 tk.at_,.int .i64 2,.int .u64 (tk.n:Int)]) rfl ?_
      rotate_left
     rotate_left 2
     focus
      go_simp;refine hK _ _ ?_;clear hK K;refine Xs 0 6 rfl rfl (fun K hK=>?_) fun K hK=>?_
      focus
       go_simp;refine hK _ _ ?_;clear hK K;refine Xv 1 (.pointer (some ⟨k.vb,0,none⟩)) rfl ?_
       refine Xv 2 (.pointer (some ⟨k.vb,8,none⟩)) rfl ?_
       refine Xr 6 rfl fun K hK=>?_;go_simp;refine hK _ _ ?_;clear hK K;refine Xv 7 (.agg #[.int .u64 tk.at_,.int .i64 2,.int .u64 (tk.n:Int)]) rfl ?_
      rotate_left
      focus
       go_simp;refine hK _ _ ?_;clear hK K;refine Xv 7 (.agg #[.int .u64 tk.at_,.int .i64 2,.int .u64 (tk.n:Int)]) rfl ?_
       refine Xr 0 rfl fun K hK=>?_;go_simp;refine hK _ _ ?_;clear hK K;refine Xv 1 (.pointer (some ⟨k.vb,0,none⟩)) rfl ?_
       refine Xv 2 (.pointer (some ⟨k.vb,8,none⟩)) rfl ?_
      rotate_left
     rotate_left 2
     focus
      go_simp;refine hK _ _ ?_;clear hK K;refine Xs 0 5 rfl rfl (fun K hK=>?_) fun K hK=>?_
      focus
       go_simp;refine hK _ _ ?_;clear hK K;refine Xv 1 (.pointer (some ⟨k.vb,0,none⟩)) rfl ?_
       refine Xv 2 (.pointer (some ⟨k.vb,8,none⟩)) rfl ?_
       refine Xr 5 rfl fun K hK=>?_;go_simp;refine hK _ _ ?_;clear hK K;refine Xv 7 (.agg #[.int .u64 tk.at_,.int .i64 2,.int .u64 (tk.n:Int)]) rfl ?_
      rotate_left
      focus
       go_simp;refine hK _ _ ?_;clear hK K;refine Xv 7 (.agg #[.int .u64 tk.at_,.int .i64 2,.int .u64 (tk.n:Int)]) rfl ?_
       refine Xr 0 rfl fun K hK=>?_;go_simp;refine hK _ _ ?_;clear hK K;refine Xv 1 (.pointer (some ⟨k.vb,0,none⟩)) rfl ?_
       refine Xv 2 (.pointer (some ⟨k.vb,8,none⟩)) rfl ?_
      rotate_left
     rotate_left 2
    rotate_left 6
    focus
     go_simp;refine hK _ _ ?_;clear hK K;refine Xv 4 (.pointer (some ⟨k.vb,0,none⟩)) rfl ?_
     refine Xv 5 (.pointer (some ⟨k.vb,2,none⟩)) rfl ?_
     refine Xs 2 6 rfl rfl (fun K hK=>?_) fun K hK=>?_
     focus
      go_simp;refine hK _ _ ?_;clear hK K;refine Xr 6 rfl fun K hK=>?_;go_simp;refine hK _ _ ?_;clear hK K;refine Xv 7 (.bool true) rfl ?_
      refine wpAnyIn_done (by kernel_rfl) ?_ _
      gi_wp2_with fail
      refine wpIn_region_any (by kernel_rfl) (X2 ll (by kernel_rfl) _ _ _ _ ?_)
      change wpAnyIn _ _ _ _ _ _ _ _ _ (World.drew _)
      refine Xv 3 (.pointer (some ⟨Bt,0,none⟩)) rfl ?_
      refine Xv 4 (.pointer (some ⟨Bt,2,none⟩)) rfl ?_
      refine wpAnyIn_ready (rs:=[0,5,6]) (by kernel_rfl) (by simp) ?_;refine AllReadyIn.cons rfl (fun K hK=>?_) (AllReadyIn.cons rfl (fun K hK=>?_) (AllReadyIn.cons rfl (fun K hK=>?_) (AllReadyIn.nil)))
      focus
       go_simp;refine hK _ _ ?_;clear hK K;refine Xv 1 (.pointer (some ⟨k.vb,0,none⟩)) rfl ?_
       refine Xv 2 (.pointer (some ⟨k.vb,8,none⟩)) rfl ?_
       refine Xs 5 6 rfl rfl (fun K hK=>?_) fun K hK=>?_
       focus
        go_simp;refine hK _ _ ?_;clear hK K;refine Xr 6 rfl fun K hK=>?_;go_simp;refine hK _ _ ?_;clear hK K;refine Xv 7 (.agg #[.int .u64 tk.at_,.int .i64 2,.int .u64 (tk.n:Int)]) rfl ?_
       rotate_left
       focus
        go_simp;refine hK _ _ ?_;clear hK K;refine Xr 5 rfl fun K hK=>?_;go_simp;refine hK _ _ ?_;clear hK K;refine Xv 7 (.agg #[.int .u64 tk.at_,.int .i64 2,.int .u64 (tk.n:Int)]) rfl ?_
       rotate_left
      rotate_left 2
      focus
       go_simp;refine hK _ _ ?_;clear hK K;refine Xs 0 6 rfl rfl (fun K hK=>?_) fun K hK=>?_
       focus
        go_simp;refine hK _ _ ?_;clear hK K;refine Xv 1 (.pointer (some ⟨k.vb,0,none⟩)) rfl ?_
        refine Xv 2 (.pointer (some ⟨k.vb,8,none⟩)) rfl ?_
        refine Xr 6 rfl fun K hK=>?_;go_simp;refine hK _ _ ?_;clear hK K;refine Xv 7 (.agg #[.int .u64 tk.at_,.int .i64 2,.int .u64 (tk.n:Int)]) rfl ?_
       rotate_left
       focus
        go_simp;refine hK _ _ ?_;clear hK K;refine Xv 7 (.agg #[.int .u64 tk.at_,.int .i64 2,.int .u64 (tk.n:Int)]) rfl ?_
        refine Xr 0 rfl fun K hK=>?_;go_simp;refine hK _ _ ?_;clear hK K;refine Xv 1 (.pointer (some ⟨k.vb,0,none⟩)) rfl ?_
        refine Xv 2 (.pointer (some ⟨k.vb,8,none⟩)) rfl ?_
       rotate_left
      rotate_left 2
      focus
       go_simp;refine hK _ _ ?_;clear hK K;refine Xs 0 5 rfl rfl (fun K hK=>?_) fun K hK=>?_
       focus
        go_simp;refine hK _ _ ?_;clear hK K;refine Xv 1 (.pointer (some ⟨k.vb,0,none⟩)) rfl ?_
        refine Xv 2 (.pointer (some ⟨k.vb,8,none⟩)) rfl ?_
        refine Xr 5 rfl fun K hK=>?_;go_simp;refine hK _ _ ?_;clear hK K;refine Xv 7 (.agg #[.int .u64 tk.at_,.int .i64 2,.int .u64 (tk.n:Int)]) rfl ?_
       rotate_left
       focus
        go_simp;refine hK _ _ ?_;clear hK K;refine Xv 7 (.agg #[.int .u64 tk.at_,.int .i64 2,.int .u64 (tk.n:Int)]) rfl ?_
        refine Xr 0 rfl fun K hK=>?_;go_simp;refine hK _ _ ?_;clear hK K;refine Xv 1 (.pointer (some ⟨k.vb,0,none⟩)) rfl ?_
        refine Xv 2 (.pointer (some ⟨k.vb,8,none⟩)) rfl ?_
       rotate_left
      rotate_left 2
     rotate_left 6
     focus
      go_simp;refine hK _ _ ?_;clear hK K;refine Xr 2 rfl fun K hK=>?_;go_simp;refine hK _ _ ?_;clear hK K;refine Xv 7 (.bool true) rfl ?_
      refine wpAnyIn_done (by kernel_rfl) ?_ _
      gi_wp2_with fail
      refine wpIn_region_any (by kernel_rfl) (X2 ll (by kernel_rfl) _ _ _ _ ?_)
      change wpAnyIn _ _ _ _ _ _ _ _ _ (World.drew _)
      refine Xv 3 (.pointer (some ⟨Bt,0,none⟩)) rfl ?_
      refine Xv 4 (.pointer (some ⟨Bt,2,none⟩)) rfl ?_
      refine wpAnyIn_ready (rs:=[0,5,6]) (by kernel_rfl) (by simp) ?_;refine AllReadyIn.cons rfl (fun K hK=>?_) (AllReadyIn.cons rfl (fun K hK=>?_) (AllReadyIn.cons rfl (fun K hK=>?_) (AllReadyIn.nil)))
      focus
       go_simp;refine hK _ _ ?_;clear hK K;refine Xv 1 (.pointer (some ⟨k.vb,0,none⟩)) rfl ?_
       refine Xv 2 (.pointer (some ⟨k.vb,8,none⟩)) rfl ?_
       refine Xs 5 6 rfl rfl (fun K hK=>?_) fun K hK=>?_
       focus
        go_simp;refine hK _ _ ?_;clear hK K;refine Xr 6 rfl fun K hK=>?_;go_simp;refine hK _ _ ?_;clear hK K;refine Xv 7 (.agg #[.int .u64 tk.at_,.int .i64 2,.int .u64 (tk.n:Int)]) rfl ?_
       rotate_left
       focus
        go_simp;refine hK _ _ ?_;clear hK K;refine Xr 5 rfl fun K hK=>?_;go_simp;refine hK _ _ ?_;clear hK K;refine Xv 7 (.agg #[.int .u64 tk.at_,.int .i64 2,.int .u64 (tk.n:Int)]) rfl ?_
       rotate_left
      rotate_left 2
      focus
       go_simp;refine hK _ _ ?_;clear hK K;refine Xs 0 6 rfl rfl (fun K hK=>?_) fun K hK=>?_
       focus
        go_simp;refine hK _ _ ?_;clear hK K;refine Xv 1 (.pointer (some ⟨k.vb,0,none⟩)) rfl ?_
        refine Xv 2 (.pointer (some ⟨k.vb,8,none⟩)) rfl ?_
        refine Xr 6 rfl fun K hK=>?_;go_simp;refine hK _ _ ?_;clear hK K;refine Xv 7 (.agg #[.int .u64 tk.at_,.int .i64 2,.int .u64 (tk.n:Int)]) rfl ?_
       rotate_left
       focus
        go_simp;refine hK _ _ ?_;clear hK K;refine Xv 7 (.agg #[.int .u64 tk.at_,.int .i64 2,.int .u64 (tk.n:Int)]) rfl ?_
        refine Xr 0 rfl fun K hK=>?_;go_simp;refine hK _ _ ?_;clear hK K;refine Xv 1 (.pointer (some ⟨k.vb,0,none⟩)) rfl ?_
        refine Xv 2 (.pointer (some ⟨k.vb,8,none⟩)) rfl ?_
       rotate_left
      rotate_left 2
      focus
       go_simp;refine hK _ _ ?_;clear hK K;refine Xs 0 5 rfl rfl (fun K hK=>?_) fun K hK=>?_
       focus
        go_simp;refine hK _ _ ?_;clear hK K;refine Xv 1 (.pointer (some ⟨k.vb,0,none⟩)) rfl ?_
        refine Xv 2 (.pointer (some ⟨k.vb,8,none⟩)) rfl ?_
        refine Xr 5 rfl fun K hK=>?_;go_simp;refine hK _ _ ?_;clear hK K;refine Xv 7 (.agg #[.int .u64 tk.at_,.int .i64 2,.int .u64 (tk.n:Int)]) rfl ?_
       rotate_left
       focus
        go_simp;refine hK _ _ ?_;clear hK K;refine Xv 7 (.agg #[.int .u64 tk.at_,.int .i64 2,.int .u64 (tk.n:Int)]) rfl ?_
        refine Xr 0 rfl fun K hK=>?_;go_simp;refine hK _ _ ?_;clear hK K;refine Xv 1 (.pointer (some ⟨k.vb,0,none⟩)) rfl ?_
        refine Xv 2 (.pointer (some ⟨k.vb,8,none⟩)) rfl ?_
       rotate_left
      rotate_left 2
     rotate_left 6
    rotate_left 12
    all_goals
     refine Xr 8 rfl fun K hK=>?_;go_simp;refine(hcall _ _ (Xp.below ((Xp.refl V).drew).drew)).mono ?_;rintro e V3 ⟨rfl,k1,k2,k3,k4,k5⟩;refine hK _ _ ?_;clear hK K;refine wpAnyIn_done (by kernel_rfl) ?_ _
     gi_wp2
     exact⟨k1,k2,⟨k3,k4⟩,k5⟩
   have hbX:Below V.heap.size V V.drew:=(Below.refl _ V).drew;have k1:KeepsFrom V1.heap.size V V.drew:=X0 _ hbX;have k2:KeepsT Xo7 V V.drew:=KeepsT.below hbX;have k3:=hJ2 _ (by rw [show Zw tm tk = [] from if_neg hat,List.append_nil];exact hJ1.below hbX);have k4:=bV.below hbX bV.lt;have k5:V.drew.heap[D1]? = some (.deferred (some [])):=hDX;clear hJ2 hJ1 hzl hokT hQ0 bB bM mT0 kT sT kL sL bM2 mL1 hB1 hQ2 hbx hD2 hB0 bT bX bV;simp only [Xc.key]
   gi_wp2_with fail
   refine wpIn_region_any (by kernel_rfl) (X2 ll (by kernel_rfl) _ _ _ _ ?_)
   change wpAnyIn _ _ _ _ _ _ _ _ _ (World.drew _)
   refine Xv 0 (.pointer (some ⟨Bt,0,none⟩)) rfl ?_
   refine Xv 1 (.pointer (some ⟨Bt,2,none⟩)) rfl ?_
   refine Xs 2 3 rfl rfl (fun K hK=>?_) fun K hK=>?_
   ·go_simp
    refine hK _ _ ?_;clear hK K;refine Xr 3 rfl fun K hK=>?_;go_simp;refine hK _ _ ?_;clear hK K;refine Xv 4 (.pointer (some ⟨k.vb,0,none⟩)) rfl ?_
    refine Xv 5 (.pointer (some ⟨k.vb,2,none⟩)) rfl ?_
    refine Xr 6 rfl fun K hK=>?_;go_simp;refine hK _ _ ?_;clear hK K;refine Xv 7 (.bool false) rfl ?_
    refine wpAnyIn_done (by kernel_rfl) ?_ _
    gi_wp2
    exact⟨k1,k2,⟨k3,k4⟩,k5⟩
   go_simp;refine hK _ _ ?_;clear hK K;refine Xv 4 (.pointer (some ⟨k.vb,0,none⟩)) rfl ?_
   refine Xv 5 (.pointer (some ⟨k.vb,2,none⟩)) rfl ?_
   refine Xs 2 6 rfl rfl (fun K hK=>?_) fun K hK=>?_
   ·go_simp
    refine hK _ _ ?_;clear hK K;refine Xr 6 rfl fun K hK=>?_;go_simp;refine hK _ _ ?_;clear hK K;refine Xv 7 (.bool false) rfl ?_
    refine wpAnyIn_done (by kernel_rfl) ?_ _
    gi_wp2
    exact⟨k1,k2,⟨k3,k4⟩,k5⟩
   go_simp;refine hK _ _ ?_;clear hK K;refine Xr 2 rfl fun K hK=>?_;go_simp;refine hK _ _ ?_;clear hK K;refine Xv 7 (.bool false) rfl ?_
   refine wpAnyIn_done (by kernel_rfl) ?_ _
   gi_wp2
   exact⟨k1,k2,⟨k3,k4⟩,k5⟩
  case done2 =>
   rintro D2 ys X hD2' hys ⟨⟨hI,bX⟩,hDX⟩ hK
   have hys':(ys.flatMap fun x=>Zw tm (Xl x))=s.lks.flatMap (Zw tm):=by
    rw [hys]
    conv=>rhs;rw [<- Uw hokT.incL]
    rw [List.flatMap_map]
   rw [hys'] at hI
   gi_wp2
   have hKd:(X.putObj D2 (.deferred none)).heap[D1]? = some (.deferred (some [])):=(World.putObj_heap_other (by omega)).trans hDX;refine⟨by simp,.inl ⟨_,_,rfl,run_takeDeferred hK,⟨by simp,.inl ⟨_,_,rfl,run_takeDeferred hKd,?_⟩⟩⟩⟩;have j1:=hI.own hw (grownBy_putObj' X D2 (.deferred none)) (fun r e=>by cases e;exact⟨by omega,_,hK,rfl⟩);have j2:=j1.own hw (grownBy_putObj' _ D1 (.deferred none)) (fun r e=>by cases e;exact⟨by omega,_,hKd,rfl⟩);exact⟨_,results_none rfl _ _ _,rfl,j2⟩
  case stop2 =>
   rintro D c pre X _ _ h _;exact h.elim
 case stop =>
  rintro D c pre V _ _ h _;exact h.elim
end Go.Proofs
namespace Go.Proofs
open Go.RowKit Go.Sort Go.Lib Go.Shelf Go.Maps Go.WideMaps
theorem Spares.Xwa {bs bs':List Nat} {W W':World} (h:Spares bs W W') (hb:∀ b∈bs,b∈bs'\/W.heap.size<=b):Spares bs' W W':=
 ⟨h.os,h.tape,h.output,h.size,fun k hk hn=>h.block k hk (fun hm=>(hb k hm).elim hn (fun e=>by omega))⟩
theorem Tryz.Xv3 (vb Bv:Nat) (v t:Value) (u:FrameMode) (w:World) (hv:v=.slice none 0 0\/∃ g cap,v=.slice (some ⟨g,0,none⟩) 0 cap) (cB:w.cell? ⟨Bv,0,none⟩=some (.pointer (some ⟨vb,0,none⟩))) (c6:w.cell? ⟨vb,7,none⟩=some t) (f6:w.frozen? ⟨vb,7,none⟩=false) (c7:w.cell? ⟨vb,8,none⟩=some v) (f7:w.frozen? ⟨vb,8,none⟩=false) (hne:Bv≠vb) :
  CallsD prog 73 #[.pointer (some ⟨Bv,0,none⟩)] u w fun e u' w'=>u'=u/\(e=.returned (.tuple #[])/\w'=(w.setCell ⟨vb,7,none⟩ (.bool false)).setCell ⟨vb,8,none⟩ v):=by
 have c7':(w.setCell ⟨vb,7,none⟩ (.bool false)).cell? ⟨vb,8,none⟩=some v:=(World.cell?_setCell_other _ _ _ _ (by simp)).trans c7
 have f7':(w.setCell ⟨vb,7,none⟩ (.bool false)).frozen? ⟨vb,8,none⟩=false:=by rw [World.frozen?_setCell];exact f7
 have cB':(w.setCell ⟨vb,7,none⟩ (.bool false)).cell? ⟨Bv,0,none⟩=some (.pointer (some ⟨vb,0,none⟩)):=(World.cell?_setCell_far _ _ _ _ (fun e=>hne e.symm)).trans cB;have hE:=Xo5 vb v _ hv c7' f7'
 go_enter_d func73,ntmps73
 go_wp2_with (go_at_call 74;refine hE.mono ?_;rintro e w1 ⟨rfl,rfl⟩)
 go_end0
 exact⟨rfl,rfl⟩
end Go.Proofs
namespace Go.Proofs
open Go.RowKit Go.Sort Go.Lib Go.Shelf Go.Maps
def hasU (s:VSt) (u:Nat):Bool:=s.tks.any (fun x=>x.ak==1&&(x.au:Int)==(u:Int))||s.lks.any (fun x=>x.ak==1&&(x.au:Int)==(u:Int))
def Vb (tm:Int) (t:Xd):Xd:={ t with pd:=true,tr:=t.tr+1,at_:=plusI tm (waitN t.tr.toNat) }
def U9 (tm:Int) (t:Xc):Xc:={ t with pd:=true,tr:=t.tr+1,at_:=plusI tm (waitN t.tr.toNat) }
inductive Zr (tm:Int) (s:VSt):Xe->Item->Bool->Nat->Nat->Prop where
 | tok (t:Xd) (ht:t∈s.tks) (hk:t.ak=1):Zr tm s ⟨t.at_,1,t.n⟩ (.tok (Vb tm t)) true t.n t.au
 | lea (t:Xc) (ht:t∈s.lks) (hk:t.ak=1):Zr tm s ⟨t.at_,2,t.n⟩ (.lea (U9 tm t)) false t.n t.au
def Jb (s:VSt) (tm:Int) (un:Nat):List Xe:=match s.tks.find? (fun t=>t.n==un) with
 | some p=>Yv s tm p
 | none=>[]
structure TS where
 s:VSt
 q:List Xe
 fl:Int
 c:List UInt8
 cl:List (Int × Nat)
inductive Jn (tm:Int):TS->TS->Prop where
 | fail {a:TS} {t:Xe} {q' q'':List Xe} {it:Item} {tk:Bool} {n un:Nat} (hs:Zr tm a.s t it tk n un) (hp:(t :: q').Perm a.q) (hl:∀ u∈q',¬ ltT u t) (ho:(a.fl % 2==1)=true) (hq:q''.Perm q'):Jn tm a ⟨it.app a.s,q'',a.fl / 2,a.c++keepLine tm [it],a.cl ++ [(kdB tk,n)]⟩
 | ok {a:TS} {t:Xe} {q' q'':List Xe} {it:Item} {tk:Bool} {n un:Nat} (hs:Zr tm a.s t it tk n un) (hp:(t :: q').Perm a.q) (hl:∀ u∈q',¬ ltT u t) (ho:(a.fl % 2==1)=false) (hq:q''.Perm (q'++Jb ((Item.gone tk n).app a.s) tm un)):Jn tm a ⟨(Item.gone tk n).app a.s,q'',a.fl / 2,a.c++keepLine tm [.gone tk n],a.cl ++ [(kdB tk,n)]⟩
inductive Jv (tm:Int):TS->TS->Prop where
 | refl (a:TS):Jv tm a a
 | step {a b c:TS} (h:Jv tm a b) (h1:Jn tm b c):Jv tm a c
structure Jt (s:VSt):Prop where
 incT:s.tks.Pairwise (fun a b=>a.n<b.n)
 incL:s.lks.Pairwise (fun a b=>a.n<b.n)
 upT:∀ t∈s.tks,t.n=0\/t.ak=1/\∃ p∈s.tks,p.n=t.au
 upL:∀ t∈s.lks,t.ak=1/\∃ p∈s.tks,p.n=t.au
 root:∀ t∈s.tks,t.n=0->t.pd=false
structure QOk (tm:Int) (s:VSt) (q:List Xe):Prop where
 nd:(q.map (fun t=>(t.k,t.n))).Nodup
 ex:∀ t∈q,∃ it tk n un,Zr tm s t it tk n un
 nb:∀ t∈q,t.k=1->∀ n:Nat,t.n=n->hasU s n=false
theorem QOk.perm {tm:Int} {s:VSt} {q q':List Xe} (h:QOk tm s q) (hp:q'.Perm q):QOk tm s q':=
 ⟨(hp.map _).nodup_iff.2 h.nd,fun t ht=>h.ex t (hp.mem_iff.1 ht),fun t ht=>h.nb t (hp.mem_iff.1 ht)⟩
theorem Xk7 {t:Xd} {l:List Xd} (hs:l.Pairwise (fun a b=>a.n<b.n)) {x:Xd} (hx:x∈l) (hn:x.n=t.n) (f:Xd->Bool) (hf:f t=f x):(Yh t l).any f=l.any f:=by
 rcases Yx (t:=t) hs with⟨a,y,b,rfl,hy,hp,hne⟩ | ⟨hne,-⟩
 ·have:x=y:=Z5 (f:=Xd.n) hs hx (by simp) (by omega)
  subst this;rw [hp];simp [hf]
 exact absurd hn (hne x hx)
theorem Xkx {t:Xc} {l:List Xc} (hs:l.Pairwise (fun a b=>a.n<b.n)) {x:Xc} (hx:x∈l) (hn:x.n=t.n) (f:Xc->Bool) (hf:f t=f x):(Yc t l).any f=l.any f:=by
 rcases Yw (t:=t) hs with⟨a,y,b,rfl,hy,hp,hne⟩ | ⟨hne,-⟩
 ·have:x=y:=Z5 (f:=Xc.n) hs hx (by simp) (by omega)
  subst this;rw [hp];simp [hf]
 exact absurd hn (hne x hx)
theorem Zr.hasU {tm:Int} {s:VSt} {t:Xe} {it:Item} {tk:Bool} {n un:Nat} (hs:Zr tm s t it tk n un) (ht:Jt s) (u:Nat):hasU (it.app s) u=hasU s u:=by
 cases hs with
 | tok t hm hk=>show ((Yh (Vb tm t) s.tks).any _||s.lks.any _)=_;rw [Xk7 (t:=Vb tm t) ht.incT hm rfl _ rfl];rfl
 | lea t hm hk=>show (s.tks.any _||(Yc (U9 tm t) s.lks).any _)=_;rw [Xkx (t:=U9 tm t) ht.incL hm rfl _ rfl];rfl
theorem Xog {s:VSt} {tk:Bool} {n u:Nat} (h:hasU s u=false):hasU ((Item.gone tk n).app s) u=false:=by
 unfold hasU at *;simp only [Bool.or_eq_false_iff,List.any_eq_false] at *;exact⟨fun x hx=>h.1 x (Yz hx),fun x hx=>h.2 x (Ze hx)⟩
theorem putTok_has {t x:Xd} {l:List Xd} (hs:l.Pairwise (fun a b=>a.n<b.n)) (hx:x∈l):x.n=t.n\/x∈Yh t l:=by
 rcases Yx (t:=t) hs with⟨a,y,b,rfl,hy,hp,hne⟩ | ⟨hne,hp⟩
 ·rw [hp]
  simp only [List.mem_append,List.mem_cons] at hx ⊢
  rcases hx with h | rfl | h
  ·exact .inr (.inl h)
  ·exact .inl hy
  exact .inr (.inr (.inr h))
 rw [hp];exact .inr (by simp [hx])
theorem Xj5 {t:Xd} {l:List Xd} (hs:l.Pairwise (fun a b=>a.n<b.n)):t∈Yh t l:=by
 rcases Yx (t:=t) hs with⟨a,y,b,rfl,hy,hp,hne⟩ | ⟨hne,hp⟩ <;> rw [hp] <;> simp
theorem putLea_has {t x:Xc} {l:List Xc} (hs:l.Pairwise (fun a b=>a.n<b.n)) (hx:x∈l):x.n=t.n\/x∈Yc t l:=by
 rcases Yw (t:=t) hs with⟨a,y,b,rfl,hy,hp,hne⟩ | ⟨hne,hp⟩
 ·rw [hp]
  simp only [List.mem_append,List.mem_cons] at hx ⊢
  rcases hx with h | rfl | h
  ·exact .inr (.inl h)
  ·exact .inl hy
  exact .inr (.inr (.inr h))
 rw [hp];exact .inr (by simp [hx])
theorem V7 {t:Xd} {l:List Xd} (hs:l.Pairwise (fun a b=>a.n<b.n)) {m:Nat} (h:∃ p∈l,p.n=m):∃ p∈Yh t l,p.n=m:=by
 obtain⟨p,hp,e⟩:=h
 rcases putTok_has (t:=t) hs hp with h1 | h1
 ·exact⟨t,Xj5 hs,by omega⟩
 exact⟨p,h1,e⟩
theorem Jt.failed {tm:Int} {s:VSt} {t:Xe} {it:Item} {tk:Bool} {n un:Nat} (h:Jt s) (hs:Zr tm s t it tk n un) (h0:tk=true->n≠0):Jt (it.app s):=by
 cases hs with
 | tok t hm hk =>
  refine⟨V9 h.incT (.inl ⟨t,hm,rfl⟩),h.incL,fun x hx=>?_,fun x hx=>⟨(h.upL x hx).1,V7 h.incT (h.upL x hx).2⟩,fun x hx e=>?_⟩
  ·rcases Zh h.incT hx with rfl | hx
   ·rcases h.upT t hm with e | e
    ·exact .inl e
    exact .inr ⟨e.1,V7 h.incT e.2⟩
   rcases h.upT x hx with e | e
   ·exact .inl e
   exact .inr ⟨e.1,V7 h.incT e.2⟩
  rcases Zh h.incT hx with rfl | hx
  ·exact absurd e (h0 rfl)
  exact h.root x hx e
 | lea t hm hk =>
  refine⟨h.incT,Mc h.incL (.inl ⟨t,hm,rfl⟩),h.upT,fun x hx=>?_,h.root⟩
  rcases Jd h.incL hx with rfl | hx
  ·exact h.upL t hm
  exact h.upL x hx
theorem Jt.gone {s:VSt} (h:Jt s) (tk:Bool) (n:Nat) (hb:tk=true->hasU s n=false):Jt ((Item.gone tk n).app s):=by
 have hinc:(Yu tk n s.tks).Pairwise (fun a b=>a.n<b.n):=by
  cases tk
  ·exact h.incT
  exact h.incT.filter _
 have hincL:(Y4 tk n s.lks).Pairwise (fun a b=>a.n<b.n):=by
  cases tk
  ·exact h.incL.filter _
  exact h.incL
 have keep:∀ m,(∃ p∈s.tks,p.n=m)->(tk=true->m≠n)->∃ p∈Yu tk n s.tks,p.n=m:=fun m ⟨p,hp,e⟩ hne=>by
  cases tk
  ·exact⟨p,hp,e⟩
  exact⟨p,List.mem_filter.2 ⟨hp,by simpa [e] using hne rfl⟩,e⟩
 refine⟨hinc,hincL,fun x hx=>?_,fun x hx=>?_,fun x hx e=>h.root x (Yz hx) e⟩
 ·rcases h.upT x (Yz hx) with e | ⟨e1,e2⟩
  ·exact .inl e
  refine .inr ⟨e1,keep _ e2 (fun et en=>?_)⟩;have:=hb et;unfold hasU at this;simp only [Bool.or_eq_false_iff,List.any_eq_false] at this;exact this.1 x (Yz hx) (by simp [e1,en])
 obtain⟨e1,e2⟩:=h.upL x (Ze hx);refine⟨e1,keep _ e2 (fun et en=>?_)⟩;have:=hb et;unfold hasU at this;simp only [Bool.or_eq_false_iff,List.any_eq_false] at this;exact this.2 x (Ze hx) (by simp [e1,en])
theorem Zr.key {tm:Int} {s:VSt} {t:Xe} {it:Item} {tk:Bool} {n un:Nat} (hs:Zr tm s t it tk n un):t.k=kdB tk/\t.n=(n:Int):=by
 cases hs with
 | tok t hm hk=>exact⟨rfl,rfl⟩
 | lea t hm hk=>exact⟨rfl,rfl⟩
theorem Zr.under {tm:Int} {s:VSt} {t:Xe} {it:Item} {tk:Bool} {n un:Nat} (hs:Zr tm s t it tk n un):Proofs.hasU s un=true:=by
 unfold Proofs.hasU;rw [Bool.or_eq_true]
 cases hs with
 | tok t hm hk=>exact .inl (List.any_eq_true.2 ⟨t,hm,by simp [hk]⟩)
 | lea t hm hk=>exact .inr (List.any_eq_true.2 ⟨t,hm,by simp [hk]⟩)
theorem Zr.other {tm:Int} {s:VSt} {t u:Xe} {it it2:Item} {tk tk2:Bool} {n un n2 un2:Nat} (hs:Zr tm s t it tk n un) (hu:Zr tm s u it2 tk2 n2 un2) (ht:Jt s) (hne:(u.k,u.n)≠(t.k,t.n)):Zr tm (it.app s) u it2 tk2 n2 un2:=by
 cases hs with
 | tok t hm hk =>
  cases hu with
  | tok x hx hk2 =>
   rcases putTok_has (t:=Vb tm t) ht.incT hx with e | e
   ·exact absurd (by have e:x.n=t.n:=e;simp [e]) hne
   exact .tok x e hk2
  | lea x hx hk2=>exact .lea x hx hk2
 | lea t hm hk =>
  cases hu with
  | tok x hx hk2=>exact .tok x hx hk2
  | lea x hx hk2 =>
   rcases putLea_has (t:=U9 tm t) ht.incL hx with e | e
   ·exact absurd (by have e:x.n=t.n:=e;simp [e]) hne
   exact .lea x e hk2
theorem Zr.left {tm:Int} {s:VSt} {u:Xe} {it2:Item} {tk tk2:Bool} {n n2 un2:Nat} (hu:Zr tm s u it2 tk2 n2 un2) (hne:(u.k,u.n)≠(kdB tk,(n:Int))):Zr tm ((Item.gone tk n).app s) u it2 tk2 n2 un2:=by
 cases hu with
 | tok x hx hk2 =>
  refine .tok x ?_ hk2;cases tk
  ·exact hx
  exact List.mem_filter.2 ⟨hx,by simpa using fun e=>hne (by simp [kdB,e])⟩
 | lea x hx hk2 =>
  refine .lea x ?_ hk2;cases tk
  ·exact List.mem_filter.2 ⟨hx,by simpa using fun e=>hne (by simp [kdB,e])⟩
  exact hx
theorem QOk.failed {tm:Int} {s:VSt} {t:Xe} {q':List Xe} {it:Item} {tk:Bool} {n un:Nat} (h:QOk tm s (t :: q')) (ht:Jt s) (hs:Zr tm s t it tk n un):QOk tm (it.app s) q':=by
 obtain⟨h1,h2⟩:=List.nodup_cons.1 (by simpa using h.nd:((t.k,t.n) :: q'.map (fun t=>(t.k,t.n))).Nodup);refine⟨h2,fun u hu=>?_,fun u hu hk m hm=>by rw [hs.hasU ht];exact h.nb u (List.mem_cons_of_mem _ hu) hk m hm⟩;obtain⟨it2,tk2,n2,un2,hu2⟩:=h.ex u (List.mem_cons_of_mem _ hu);exact⟨it2,tk2,n2,un2,hs.other hu2 ht (fun e=>h1 (List.mem_map.2 ⟨u,hu,e⟩))⟩
theorem QOk.gone {tm:Int} {s:VSt} {t:Xe} {q':List Xe} {it:Item} {tk:Bool} {n un:Nat} (h:QOk tm s (t :: q')) (ht:Jt s) (hs:Zr tm s t it tk n un):QOk tm ((Item.gone tk n).app s) (q'++Jb ((Item.gone tk n).app s) tm un):=by
 obtain⟨h1,h2⟩:=List.nodup_cons.1 (by simpa using h.nd:((t.k,t.n) :: q'.map (fun t=>(t.k,t.n))).Nodup);have hkey:=hs.key
 have hleft:∀ u∈q',∃ it tk' n' un,Zr tm ((Item.gone tk n).app s) u it tk' n' un:=fun u hu=>by
  obtain⟨it2,tk2,n2,un2,hu2⟩:=h.ex u (List.mem_cons_of_mem _ hu);exact⟨it2,tk2,n2,un2,hu2.left (fun e=>h1 (List.mem_map.2 ⟨u,hu,by rw [e,hkey.1,hkey.2]⟩))⟩
 have hT:=ht.gone tk n (fun e=>h.nb t (by simp) (by rw [hkey.1,e];rfl) n hkey.2)
 have hup:∀ u∈Jb ((Item.gone tk n).app s) tm un,u.k=1/\u.n=(un:Int)/\Proofs.hasU ((Item.gone tk n).app s) un=false/\∃ it tk' n' un',Zr tm ((Item.gone tk n).app s) u it tk' n' un':=fun u hu=>by
  unfold Jb at hu
  split at hu
  ·rename_i p hp
   have hpm:=List.mem_of_find?_eq_some hp
   have hpn:p.n=un:=by simpa using List.find?_some hp
   unfold Yv at hu
   split at hu
   ·rename_i hc
    obtain rfl:=List.mem_singleton.1 hu;simp only [Bool.and_eq_true,Bool.not_eq_true'] at hc
    have hr:p.n≠0:=fun e=>by
     have:=hT.root p hpm e;rw [this] at hc;simp at hc
    have hk:p.ak=1:=by
     rcases hT.upT p hpm with e | e
     ·exact absurd e hr
     exact e.1
    refine⟨rfl,by simp [hpn],?_,_,_,_,_,.tok p hpm hk⟩;rw [<- hpn];exact hc.2
   cases hu
  cases hu
 have hlen:(Jb ((Item.gone tk n).app s) tm un).length<=1:=by
  unfold Jb
  split
  ·unfold Yv;split <;> simp
  simp
 refine⟨?_,fun u hu=>?_,fun u hu hk m hm=>?_⟩
 ·rw [List.map_append]
  refine List.nodup_append.2 ⟨h2,?_,fun x hx y hy e=>?_⟩
  ·match hq:Jb ((Item.gone tk n).app s) tm un,hlen with
   | [],_=>simp
   | [a],_=>simp
   | a :: b :: r,hl=>simp at hl
  obtain⟨u,hu,rfl⟩:=List.mem_map.1 hx;obtain⟨z,hz,rfl⟩:=List.mem_map.1 hy;obtain⟨z1,z2,-⟩:=hup z hz;have e':=Prod.mk.inj e;have:=h.nb u (List.mem_cons_of_mem _ hu) (by rw [e'.1,z1]) un (by rw [e'.2,z2]);rw [hs.under] at this;cases this
 ·rcases List.mem_append.1 hu with hu | hu
  ·exact hleft u hu
  exact(hup u hu).2.2.2
 rcases List.mem_append.1 hu with hu | hu
 ·exact Xog (h.nb u (List.mem_cons_of_mem _ hu) hk m hm)
 obtain⟨-,z2,z3,-⟩:=hup u hu
 have:m=un:=by rw [hm] at z2;omega
 rw [this];exact z3
theorem J6 {s:VSt} {tm:Int} {t:Xd} {u:Xe} (h:u∈Yv s tm t):u=⟨t.at_,1,t.n⟩/\t.pd=true/\t.at_<=tm/\Proofs.hasU s t.n=false:=by
 unfold Yv at h
 split at h
 ·rename_i hc
  simp only [Bool.and_eq_true,Bool.not_eq_true',decide_eq_true_eq] at hc;exact⟨List.mem_singleton.1 h,hc.1.1,hc.1.2,hc.2⟩
 cases h
theorem Vv {tm:Int} {t:Xc} {u:Xe} (h:u∈Zw tm t):u=⟨t.at_,2,t.n⟩/\t.at_<=tm:=by
 unfold Zw at h
 split at h
 ·rename_i hc
  exact⟨List.mem_singleton.1 h,hc⟩
 cases h
theorem Xc1 {α:Type} (f:α->List Xe) (num:α->Nat) (kd:Int) (hf:∀ x u,u∈f x->u.k=kd/\u.n=(num x:Int)) (h1:∀ x,(f x).length<=1):∀ {l:List α},l.Pairwise (fun a b=>num a<num b)->((l.flatMap f).map (fun t=>(t.k,t.n))).Nodup
 | [],_=>by simp
 | a :: l,h=>by
  obtain⟨h2,h3⟩:=List.pairwise_cons.1 h;rw [List.flatMap_cons,List.map_append];refine List.nodup_append.2 ⟨?_,Xc1 f num kd hf h1 h3,fun x hx y hy e=>?_⟩
  ·match f a,h1 a with
   | [],_=>simp
   | [b],_=>simp
   | b :: c :: r,hl=>simp at hl
  obtain⟨u,hu,rfl⟩:=List.mem_map.1 hx;obtain⟨z,hz,rfl⟩:=List.mem_map.1 hy;obtain⟨b,hb,hz⟩:=List.mem_flatMap.1 hz;have:=(hf a u hu).2;have:=(hf b z hz).2;have:=(Prod.mk.inj e).2;have:=h2 b hb;omega
theorem QOk.start {tm:Int} {s:VSt} (ht:Jt s):QOk tm s (s.tks.flatMap (Yv s tm)++s.lks.flatMap (Zw tm)):=by
 refine⟨?_,fun u hu=>?_,fun u hu hk m hm=>?_⟩
 ·rw [List.map_append]
  refine List.nodup_append.2 ⟨Xc1 _ Xd.n 1 (fun x u h=>by rw [(J6 h).1];exact⟨rfl,rfl⟩) (fun x=>by unfold Yv;split <;> simp) ht.incT,Xc1 _ Xc.n 2 (fun x u h=>by rw [(Vv h).1];exact⟨rfl,rfl⟩) (fun x=>by unfold Zw;split <;> simp) ht.incL,fun x hx y hy e=>?_⟩;obtain⟨u,hu,rfl⟩:=List.mem_map.1 hx;obtain⟨z,hz,rfl⟩:=List.mem_map.1 hy;obtain⟨a,-,hu⟩:=List.mem_flatMap.1 hu;obtain⟨b,-,hz⟩:=List.mem_flatMap.1 hz;rw [(J6 hu).1,(Vv hz).1] at e;exact absurd (Prod.mk.inj e).1 (by simp)
 ·rcases List.mem_append.1 hu with hu | hu
  ·obtain⟨a,ha,hu⟩:=List.mem_flatMap.1 hu
   obtain⟨rfl,hp,-,-⟩:=J6 hu
   rcases ht.upT a ha with e | e
   ·rw [ht.root a ha e] at hp;cases hp
   exact⟨_,_,_,_,.tok a ha e.1⟩
  obtain⟨a,ha,hu⟩:=List.mem_flatMap.1 hu;obtain⟨rfl,-⟩:=Vv hu;exact⟨_,_,_,_,.lea a ha (ht.upL a ha).1⟩
 rcases List.mem_append.1 hu with hu | hu
 ·obtain⟨a,ha,hu⟩:=List.mem_flatMap.1 hu
  obtain⟨rfl,-,-,hb⟩:=J6 hu
  have:m=a.n:=by have:(a.n:Int)=m:=hm;omega
  rw [this];exact hb
 obtain⟨a,ha,hu⟩:=List.mem_flatMap.1 hu;obtain⟨rfl,-⟩:=Vv hu;exact absurd hk (by simp)
theorem Ud {α:Type} (p:α->Bool):∀ {l:List α} {x:α},x∈l->p x=false->(l.filter p).length+1<=l.length
 | a :: l,x,hx,hp=>by
  rcases List.mem_cons.1 hx with rfl | hx
  ·rw [List.filter_cons_of_neg (by simp [hp])]
   have:=List.length_filter_le p l;simp;omega
  have:=Ud p hx hp
  by_cases h:p a=true
  ·rw [List.filter_cons_of_pos h];simp;omega
  rw [List.filter_cons_of_neg h];simp;omega
def TS.left (a:TS):Nat:=a.q.length+2*(a.s.tks.length+a.s.lks.length)
theorem J8 {t:Xd} {l:List Xd} (hs:l.Pairwise (fun a b=>a.n<b.n)) {x:Xd} (hx:x∈l) (hn:x.n=t.n):(Yh t l).length=l.length:=by
 rcases Yx (t:=t) hs with⟨a,y,b,rfl,hy,hp,hne⟩ | ⟨hne,-⟩
 ·rw [hp];simp
 exact absurd hn (hne x hx)
theorem Ua {t:Xc} {l:List Xc} (hs:l.Pairwise (fun a b=>a.n<b.n)) {x:Xc} (hx:x∈l) (hn:x.n=t.n):(Yc t l).length=l.length:=by
 rcases Yw (t:=t) hs with⟨a,y,b,rfl,hy,hp,hne⟩ | ⟨hne,-⟩
 ·rw [hp];simp
 exact absurd hn (hne x hx)
theorem Jn.less {tm:Int} {a b:TS} (h:Jn tm a b) (ht:Jt a.s):b.left<a.left:=by
 cases h with
 | fail hs hp hl ho hq =>
  have h1:=hp.length_eq;have h2:=hq.length_eq;simp only [List.length_cons] at h1;unfold TS.left
  cases hs with
  | tok t hm hk =>
   have:(Yh (Vb tm t) a.s.tks).length=a.s.tks.length:=J8 ht.incT hm rfl;simp only [Item.app];omega
  | lea t hm hk =>
   have:(Yc (U9 tm t) a.s.lks).length=a.s.lks.length:=Ua ht.incL hm rfl;simp only [Item.app];omega
 | @ok t q' q'' it tk n un hs hp hl ho hq =>
  have h1:=hp.length_eq;have h2:=hq.length_eq
  have h3:(Jb ((Item.gone tk n).app a.s) tm un).length<=1:=by
   unfold Jb
   split
   ·unfold Yv;split <;> simp
   simp
  rw [List.length_append] at h2;simp only [List.length_cons] at h1;unfold TS.left
  cases hs with
  | tok t hm hk =>
   have:(a.s.tks.filter (fun x=>x.n != t.n)).length+1<=a.s.tks.length:=Ud _ hm (by simp);simp only [Item.app,Yu,Y4,Xbj,if_true];omega
  | lea t hm hk =>
   have:(a.s.lks.filter (fun x=>x.n != t.n)).length+1<=a.s.lks.length:=Ud _ hm (by simp);simp only [Item.app,Yu,Y4,Xbi,Bool.false_eq_true,if_false];omega
section
variable {k:Blk} {vx:VX} {tm:Int} {s:VSt} {tn ln:Int}
theorem Tryz.Xdr {t:Xe} {it:Item} {tk:Bool} {n un:Nat} (hs:Zr tm s t it tk n un) (W:World) (hV:Xq W k.vb k.mt k.ml vx tm tn ln s.tks s.lks):Calls prog 134 #[.pointer (some ⟨k.vb,0,none⟩),nmV (kdB tk,(n:Int))] W fun e w'=>e=.returned (nmV (1,(un:Int)))/\Below W.heap.size W w':=by
 cases hs with
 | tok t hm hk =>
  have h:=Xjh k.vb k.mt (1,(t.n:Int)) t.ak t.au t.at_ t.tr t.pd W (fun W' hb=>⟨(hV.below hb).v.cell 3 rfl,(hV.below hb).Xhi hm⟩);rw [hk] at h;exact h
 | lea t hm hk =>
  have h:=Xkm k.vb k.mt k.ml (2,(t.n:Int)) t.ak t.au t.at_ t.tr t.pd t.pth t.last W (fun W' hb=>⟨(hV.below hb).v.cell 3 rfl,(hV.below hb).Xaa (Xdw (.inr rfl) (hV.ok.limL t hm).1) (fun x _ e=>by have:=(Prod.mk.inj e).1;omega)⟩) (fun W' hb=>⟨(hV.below hb).v.cell 4 rfl,(hV.below hb).Xse hm⟩);rw [hk] at h;exact h
theorem Tryz.Xlj {t:Xe} {it:Item} {tk:Bool} {n un:Nat} (hs:Zr tm s t it tk n un) (t0:0<=tm) (t1:tm<=18446744073709551615) (hT:∀ x∈s.tks,0<=x.tr/\x.tr<9223372036854775807) (hL:∀ x∈s.lks,0<=x.tr/\x.tr<9223372036854775807) (W:World) (hV:Xq W k.vb k.mt k.ml vx tm tn ln s.tks s.lks):Calls prog 135 #[.pointer (some ⟨k.vb,0,none⟩),nmV (kdB tk,(n:Int))] W fun e w'=>e=.returned (.agg it.rec_.cells)/\Below W.heap.size W w':=by
 cases hs with
 | tok t hm hk=>exact Xkw k.vb k.mt (1,(t.n:Int)) tm t.ak t.au t.at_ t.tr t.pd W (fun W' hb=>⟨(hV.below hb).v.cell 3 rfl,(hV.below hb).v.cell 2 rfl,(hV.below hb).Xhi hm⟩) (hT t hm).1 (hT t hm).2 t0 t1
 | lea t hm hk=>exact Xme k.vb k.mt k.ml (2,(t.n:Int)) tm t.ak t.au t.at_ t.tr t.pd t.pth t.last W hV.v.lt (fun W' hb=>⟨(hV.below hb).v.cell 3 rfl,(hV.below hb).v.cell 2 rfl,(hV.below hb).Xaa (Xdw (.inr rfl) (hV.ok.limL t hm).1) (fun x _ e=>by have:=(Prod.mk.inj e).1;omega)⟩) (fun W' hb=>⟨(hV.below hb).v.cell 4 rfl,(hV.below hb).Xse hm⟩) (hL t hm).1 (hL t hm).2 t0 t1
end
theorem Zr.fits {tm:Int} {s:VSt} {t:Xe} {it:Item} {tk:Bool} {n un:Nat} (hs:Zr tm s t it tk n un) (hok:Xx s.tks s.lks) (okT:∀ t∈s.tks,Xc7 t) (okL:∀ t∈s.lks,Xdg t) (h50:s.tks.length+s.lks.length<=50) (t0:0<=tm) (t1:tm<=18446744073709551615) (hT:∀ x∈s.tks,0<=x.tr/\x.tr<1000000000) (hL:∀ x∈s.lks,0<=x.tr/\x.tr<1000000000):it.Fits s/\n<Xn:=by
 have hw:=fun m:Nat=>Vo m
 cases hs with
 | tok t hm hk =>
  have h1:=hT t hm;have h2:=okT t hm;have hr:=Zy tm (waitN t.tr.toNat) t0 t1 (by have:=hw t.tr.toNat;omega) (by have:=hw t.tr.toNat;omega);exact⟨⟨⟨hr.1,hr.2,show 0<=t.tr+1 by omega,⟨show t.tr+1<=1000000000 by omega,h2.r1.2⟩⟩,.inl ⟨t,hm,rfl⟩,by omega,(hok.limT t hm).1,(hok.limT t hm).2⟩,(hok.limT t hm).1⟩
 | lea t hm hk =>
  have h1:=hL t hm;have h2:=okL t hm;have hr:=Zy tm (waitN t.tr.toNat) t0 t1 (by have:=hw t.tr.toNat;omega) (by have:=hw t.tr.toNat;omega);exact⟨⟨⟨hr.1,hr.2,show 0<=t.tr+1 by omega,⟨show t.tr+1<=1000000000 by omega,h2.r1.2⟩,h2.l0,h2.l1,h2.p1,h2.pa⟩,.inl ⟨t,hm,rfl⟩,by omega,(hok.limL t hm).1,(hok.limL t hm).2⟩,(hok.limL t hm).1⟩
theorem Zr.up {tm:Int} {s:VSt} {t:Xe} {q:List Xe} {it:Item} {tk:Bool} {n un:Nat} (hs:Zr tm s t it tk n un) (hT:Jt s) (hQ:QOk tm s (t :: q)) (h0:tk=true->n≠0):∃ p∈((Item.gone tk n).app s).tks,p.n=un/\Jb ((Item.gone tk n).app s) tm un=Yv ((Item.gone tk n).app s) tm p:=by
 have hex:∃ p∈s.tks,p.n=un:=by
  cases hs with
  | tok t hm hk =>
   rcases hT.upT t hm with e | e
   ·exact absurd e (h0 rfl)
   exact e.2
  | lea t hm hk=>exact(hT.upL t hm).2
 obtain⟨p,hp,hpn⟩:=hex
 have hp':p∈((Item.gone tk n).app s).tks:=by
  show p∈Yu tk n s.tks
  cases tk with
  | false=>exact hp
  | true =>
   refine List.mem_filter.2 ⟨hp,?_⟩
   have hne:un≠n:=fun e=>by
    have h1:=hQ.nb t (by simp) (by rw [hs.key.1];rfl) n hs.key.2;have h2:=hs.under;rw [e,h1] at h2;cases h2
   simpa [hpn] using hne
 cases hf:((Item.gone tk n).app s).tks.find? (fun t=>t.n==un) with
 | none=>exact absurd (List.find?_eq_none.1 hf p hp') (by simp [hpn])
 | some p2 =>
  refine⟨p2,List.mem_of_find?_eq_some hf,by simpa using List.find?_some hf,?_⟩;unfold Jb;rw [hf]
theorem Tryz.Xve (B:Nat) (k:Blk) (vx:VX) (tm:Int) (s:VSt) (c:List UInt8) (l f:Int) (rb:Nat) (fl:Int) (v:Value) (xs:List Value) (q:List Xe) (w:World) (h:TAt B w k vx tm s c l f rb fl v xs q) (hl:l<0) (hl1 : -999999990<=l) (hf:f<0) (hf1 : -999999990<=f) (hc:c.length<=900000000000) (hx1:xs.length<=1000) (hq1:q.length<=100) (f0:0<=fl) (f1:fl<=18446744073709551615)
  (t:Xe) (it:Item) (tk:Bool) (n un:Nat) (hs:Zr tm s t it tk n un) (hT:Jt s) (hQ:QOk tm s (t :: q)) (hmin:∀ u∈q,¬ ltT u t) (h0:tk=true->n≠0) (h50:s.tks.length+s.lks.length<=50) (trT:∀ x∈s.tks,0<=x.tr/\x.tr<1000000000) (trL:∀ x∈s.lks,0<=x.tr/\x.tr<1000000000) (cl:List (Int × Nat)) :
  Calls prog 77 #[.pointer (some ⟨k.vb,0,none⟩),nmV (kdB tk,(n:Int))] w fun e w'=>e=.returned .nilIface/\∃ vx' v' b,Jn tm ⟨s,t :: q,fl,c,cl⟩ b/\b.cl=cl ++ [(kdB tk,n)]/\TAt B w' k vx' tm b.s b.c (l-2) (f-2) rb b.fl v' (xs ++ [.string ⟨(nmStr (kdB tk) n).toArray⟩]) b.q/\vx'.tk=vx.tk/\(∀ g,v'.ownBlock=some g->v.ownBlock=some g\/w.heap.size<=g)/\(∀ d,vx'.due.ownBlock=some d->vx.due.ownBlock=some d\/w.heap.size<=d)/\Spares (X8 k rb v vx.due) w w':=by
 have t0:=h.wh.v.t0;have t1:=h.wh.v.t1;obtain⟨hfit,hn⟩:=hs.fits h.wh.v.va.ok h.wh.v.okT h.wh.v.okL h50 t0 t1 trT trL
 by_cases ho:(fl % 2==1)=true
 ·refine(Xs6 B k vx tm s c l f rb fl v xs q w h hl hl1 hf hf1 hc hx1 f0 f1 ho (kdB tk) n hn 1 un it hfit (fun W hV=>Xdr hs W hV) (fun W hV=>Xlj hs t0 t1 (fun x hx=>⟨(trT x hx).1,by have:=(trT x hx).2;omega⟩) (fun x hx=>⟨(trL x hx).1,by have:=(trL x hx).2;omega⟩) W hV)).mono ?_
  rintro e w' ⟨rfl,g,cap,hA,hg,hS⟩;refine⟨rfl,vx,_,_,.fail (a:=⟨s,t :: q,fl,c,cl⟩) hs (List.Perm.refl _) hmin ho (List.Perm.refl _),rfl,hA,rfl,fun g' e=>?_,fun d hd=>.inl hd,hS.mono (fun b hb=>?_)⟩
  ·have e:g=g':=by simpa [Value.ownBlock] using e
   rw [<- e];exact hg
  simp only [X8,List.mem_append,List.mem_cons] at hb ⊢
  rcases hb with h | h | h
  ·exact .inl h
  ·exact .inr (.inl h)
  exact .inr (.inr (.inl h))
 have ho:(fl % 2==1)=false:=by simpa using ho
 obtain⟨p,hp,hpn,hadd⟩:=hs.up hT hQ h0;subst hpn;refine(tryOk B k vx tm s c l f rb fl v xs q w h hl hl1 hf hf1 hc hx1 hq1 f0 f1 ho tk (kdB tk) rfl n hn 1 p.n p.ak p.au p.at_ p.tr p.pd _ rfl (fun W hV=>Xdr hs W hV) (fun W hV=>hV.Xsf hp) _ rfl (Jb ((Item.gone tk n).app s) tm p.n) hadd).mono ?_;rintro e w' ⟨rfl,g,cap,vx',ys,hA,h1,h2,hg,hd,hS⟩;refine⟨rfl,vx',_,_,.ok (a:=⟨s,t :: q,fl,c,cl⟩) hs (List.Perm.refl _) hmin ho h2,rfl,hA,h1,fun g' e=>?_,hd,hS⟩
 have e:g=g':=by simpa [Value.ownBlock] using e
 rw [<- e];exact hg
def QNz (q:List Xe):Prop:=∀ t∈q,t.k=1->t.n≠0
theorem QNz.perm {q q':List Xe} (h:QNz q) (hp:q'.Perm q):QNz q':=fun t ht=>h t (hp.mem_iff.1 ht)
theorem Xp0 {s:VSt} (hT:Jt s) {tm:Int} {un:Nat}:QNz (Jb s tm un):=fun u hu hk e=>by
 unfold Jb at hu
 split at hu
 ·rename_i p hp
  have hpm:=List.mem_of_find?_eq_some hp;obtain⟨rfl,hpd,-,-⟩:=J6 hu;have e:(p.n:Int)=0:=e;rw [hT.root p hpm (by omega)] at hpd;cases hpd
 cases hu
theorem QNz.start {tm:Int} {s:VSt} (hT:Jt s):QNz (s.tks.flatMap (Yv s tm)++s.lks.flatMap (Zw tm)):=fun u hu hk e=>by
 rcases List.mem_append.1 hu with hu | hu
 ·obtain⟨a,ha,hu⟩:=List.mem_flatMap.1 hu
  obtain⟨rfl,hp,-,-⟩:=J6 hu;have e:(a.n:Int)=0:=e;rw [hT.root a ha (by omega)] at hp;cases hp
 obtain⟨a,ha,hu⟩:=List.mem_flatMap.1 hu;obtain⟨rfl,-⟩:=Vv hu;exact absurd hk (by simp)
def TrB (M:Int) (s:VSt):Prop:=(∀ x∈s.tks,0<=x.tr/\x.tr<=M)/\∀ x∈s.lks,0<=x.tr/\x.tr<=M
theorem Zr.trB {tm:Int} {s:VSt} {t:Xe} {it:Item} {tk:Bool} {n un:Nat} (hs:Zr tm s t it tk n un) (hT:Jt s) {M:Int} (h:TrB M s):TrB (M+1) (it.app s):=by
 cases hs with
 | tok t hm hk =>
  refine⟨fun x hx=>?_,fun x hx=>?_⟩
  ·rcases Zh hT.incT hx with rfl | hx
   ·have:=h.1 t hm
    show 0<=t.tr+1/\t.tr+1<=M+1
    omega
   have:=h.1 x hx;omega
  have:=h.2 x hx;omega
 | lea t hm hk =>
  refine⟨fun x hx=>?_,fun x hx=>?_⟩
  ·have:=h.1 x hx;omega
  rcases Jd hT.incL hx with rfl | hx
  ·have:=h.2 t hm
   show 0<=t.tr+1/\t.tr+1<=M+1
   omega
  have:=h.2 x hx;omega
theorem TrB.gone {s:VSt} {M:Int} (h:TrB M s) (tk:Bool) (n:Nat):TrB (M+1) ((Item.gone tk n).app s):=
 ⟨fun x hx=>by have:=h.1 x (Yz hx);omega,fun x hx=>by have:=h.2 x (Ze hx);omega⟩
theorem Xaz {tm:Int} (t0:0<=tm) (t1:tm<=18446744073709551615) {it:Item} {s:VSt} (hF:it.Fits s):(keepLine tm [it]).length<=2600:=by
 have hok:∀ r∈nowR tm :: [it].map Item.rec_,r.Ok:=fun r hr=>by
  rcases List.mem_cons.1 hr with rfl | hr
  ·exact⟨show (-9223372036854775808:Int)<=0 by decide,show (0:Int)<=9223372036854775807 by decide,show 0<18446744073709551616 by decide,show 0<18446744073709551616 by decide,t0,t1,show (-9223372036854775808:Int)<=0 by decide,show (0:Int)<=9223372036854775807 by decide,show (0:Int)<=0 by decide,show (0:Int)<=18446744073709551615 by decide,show 0<=1000 by decide⟩
  exact(Yr.ok (is:=[it]) (s:=s) ⟨hF,trivial⟩ r hr).1
 have h1:=Zx _ hok;have h2:=Xgr (recTxt (nowR tm :: [it].map Item.rec_)) (by simp at h1 ⊢;omega);unfold keepLine recLine;simp at h1 h2 ⊢;omega
structure Xa0 (tm:Int) (M:Int) (a:TS):Prop where
 tree:Jt a.s
 q:QOk tm a.s a.q
 nz:QNz a.q
 tr:TrB M a.s
 f0:0<=a.fl
 f1:a.fl<=18446744073709551615
theorem Jn.going {tm M:Int} {a b:TS} (h:Jn tm a b) (hg:Xa0 tm M a):Xa0 tm (M+1) b/\b.cl.length=a.cl.length+1:=by
 have f0:=hg.f0;have f1:=hg.f1
 cases h with
 | @fail t q' q'' it tk n un hs hp hl ho hq =>
  have hQ:=hg.q.perm hp;have hn:=hg.nz.perm hp;have hkey:=hs.key
  have h0:tk=true->n≠0:=fun e en=>hn t (by simp) (by rw [hkey.1,e];rfl) (by rw [hkey.2,en];rfl)
  exact⟨⟨hg.tree.failed hs h0,(hQ.failed hg.tree hs).perm hq,QNz.perm (fun u hu=>hn u (List.mem_cons_of_mem _ hu)) hq,hs.trB hg.tree hg.tr,show 0<=a.fl / 2 by omega,show a.fl / 2<=18446744073709551615 by omega⟩,by simp⟩
 | @ok t q' q'' it tk n un hs hp hl ho hq =>
  have hQ:=hg.q.perm hp;have hn:=hg.nz.perm hp;have hkey:=hs.key;have hT:=hg.tree.gone tk n (fun e=>hQ.nb t (by simp) (by rw [hkey.1,e];rfl) n hkey.2);refine⟨⟨hT,(hQ.gone hg.tree hs).perm hq,QNz.perm (fun u hu=>?_) hq,hg.tr.gone tk n,show 0<=a.fl / 2 by omega,show a.fl / 2<=18446744073709551615 by omega⟩,by simp⟩
  rcases List.mem_append.1 hu with hu | hu
  ·exact hn u (List.mem_cons_of_mem _ hu)
  exact Xp0 hT u hu
theorem Jn.len {tm M:Int} {a b:TS} (h:Jn tm a b) (hg:Xa0 tm M a) (hM:M<1000000000) (t0:0<=tm) (t1:tm<=18446744073709551615) (hok:Xx a.s.tks a.s.lks) (okT:∀ t∈a.s.tks,Xc7 t) (okL:∀ t∈a.s.lks,Xdg t) (h50:a.s.tks.length+a.s.lks.length<=50):b.c.length<=a.c.length+2600:=by
 have hfit:∀ {t:Xe} {it:Item} {tk:Bool} {n un:Nat},Zr tm a.s t it tk n un->it.Fits a.s/\n<Xn:=fun hs=>hs.fits hok okT okL h50 t0 t1 (fun x hx=>by have:=hg.tr.1 x hx;omega) (fun x hx=>by have:=hg.tr.2 x hx;omega)
 cases h with
 | @fail t q' q'' it tk n un hs hp hl ho hq =>
  have:=Xaz t0 t1 (hfit hs).1;simp only [List.length_append];omega
 | @ok t q' q'' it tk n un hs hp hl ho hq =>
  have:=Xaz (it:=Item.gone tk n) (s:=a.s) t0 t1 (hfit hs).2;simp only [List.length_append];omega
theorem Jn.count {tm:Int} {a b:TS} (h:Jn tm a b) (ht:Jt a.s):b.s.tks.length+b.s.lks.length<=a.s.tks.length+a.s.lks.length:=by
 cases h with
 | fail hs hp hl ho hq =>
  cases hs with
  | tok t hm hk =>
   have:(Yh (Vb tm t) a.s.tks).length=a.s.tks.length:=J8 ht.incT hm rfl;simp only [Item.app];omega
  | lea t hm hk =>
   have:(Yc (U9 tm t) a.s.lks).length=a.s.lks.length:=Ua ht.incL hm rfl;simp only [Item.app];omega
 | @ok t q' q'' it tk n un hs hp hl ho hq =>
  have h1:(Yu tk n a.s.tks).length<=a.s.tks.length:=by unfold Yu;split;exact List.length_filter_le _ _;exact Nat.le_refl _
  have h2:(Y4 tk n a.s.lks).length<=a.s.lks.length:=by unfold Y4;split;exact Nat.le_refl _;exact List.length_filter_le _ _
  simp only [Item.app];omega
theorem Jn.Xnv {tm:Int} {a b:TS} {q:List Xe} (h:Jn tm ⟨a.s,q,a.fl,a.c,a.cl⟩ b) (hp:q.Perm a.q):Jn tm a b:=by
 cases h with
 | fail hs hp1 hl ho hq=>exact .fail (a:=a) hs (hp1.trans hp) hl ho hq
 | ok hs hp1 hl ho hq=>exact .ok (a:=a) hs (hp1.trans hp) hl ho hq
theorem Jn.qc {tm:Int} {a b:TS} (h:Jn tm a b) (ht:Jt a.s):b.q.length+(b.s.tks.length+b.s.lks.length)<=a.q.length+(a.s.tks.length+a.s.lks.length):=by
 have hc:=h.count ht
 cases h with
 | fail hs hp hl ho hq =>
  have h1:=hp.length_eq;have h2:=hq.length_eq;simp only [List.length_cons] at h1 hc ⊢;omega
 | @ok t q' q'' it tk n un hs hp hl ho hq =>
  have h1:=hp.length_eq;have h2:=hq.length_eq
  have h3:(Jb ((Item.gone tk n).app a.s) tm un).length<=1:=by
   unfold Jb
   split
   ·unfold Yv;split <;> simp
   simp
  rw [List.length_append] at h2;simp only [List.length_cons] at h1 hc ⊢;omega
theorem Xiv {P:Nat->Prop}:∀ n,P n->∃ m,P m/\∀ i,P i->m<=i:=by
 intro n
 induction n using Nat.strongRecOn with
 | ind n ih =>
  intro h
  by_cases hl:∃ m,m<n/\P m
  ·obtain⟨m,hm,hp⟩:=hl
   exact ih m hm hp
  exact⟨n,h,fun i hi=>Nat.le_of_not_lt (fun e=>hl ⟨i,e,hi⟩)⟩
open Classical in
noncomputable def leastOf (P:Nat->Prop):Nat:=if h:∃ m,P m/\∀ i,P i->m<=i then Classical.choose h else 0
theorem leastOf_spec {P:Nat->Prop} (h:∃ n,P n):P (leastOf P):=by
 obtain⟨n,hn⟩:=h;have he:=Xiv n hn;unfold leastOf;rw [dif_pos he];exact(Classical.choose_spec he).1
theorem Xd8 {P:Nat->Prop} {n:Nat} (h:P n):leastOf P<=n:=by
 have he:=Xiv n h;unfold leastOf;rw [dif_pos he];exact(Classical.choose_spec he).2 n h
structure Tryz.Xt8 (B:Nat) (k:Blk) (tm:Int) (a0:TS) (l f M:Int) (rb Bv:Nat) (v0 due0:Value) (w wr:World) (nb:Nat) (t:Xe) (okb:Bool) (vx:VX) (v:Value) (q:List Xe) (a:TS) (j:Nat):Prop where
 bN:BoxN wr nb 144 t.cells
 nd:vx.due.ownBlock≠some nb
 nw:w.heap.size<=nb
 bB:BoxN wr Bv 76 #[.pointer (some ⟨k.vb,0,none⟩)]
 tat:Tryz.TAt B wr k vx tm a.s a.c (l-2*j) (f-2*j) rb a.fl v (a.cl.map fun p=>.string ⟨(nmStr p.1 p.2).toArray⟩) q
 yes:okb=true->(t :: q).Perm a.q/\∀ u∈q,¬ ltT u t
 no:okb=false->a.q = []/\q = []
 tries:Jv tm a0 a
 going:Xa0 tm (M+j) a
 left:j+a.left<=a0.left
 cl:a.cl.length=j
 c:a.c.length<=a0.c.length+2600*j
 n50:a.s.tks.length+a.s.lks.length<=50
 qc:a.q.length+(a.s.tks.length+a.s.lks.length)<=100
 tk:vx.tk=true
 sp:Spares (X8 k rb v0 due0) w wr
 vo:∀ g,v.ownBlock=some g->v0.ownBlock=some g\/w.heap.size<=g
 do_:∀ d,vx.due.ownBlock=some d->due0.ownBlock=some d\/w.heap.size<=d
def Tryz.TkI (B:Nat) (k:Blk) (tm:Int) (a0:TS) (l f M:Int) (rb Bv:Nat) (v0 due0:Value) (w:World) (p o:Value) (wr:World) (n:Nat):Prop:=
 ∃ nb t okb vx v q a j,p=.pointer (some ⟨nb,0,none⟩)/\o=.bool okb/\n=a.left/\Xt8 B k tm a0 l f M rb Bv v0 due0 w wr nb t okb vx v q a j
end Go.Proofs
