import Derived.Test.YtjbekgjdempbiaaGreatDoorJSq
import Derived.Test.YtjbekgjdempbiaaGreatDoorJRvC
import Derived.Test.YtjbekgjdempbiaaGreatDoorJTkO
import Derived.Test.YtjbekgjdempbiaaGreatDoorJKtD
import Derived.OwnWalkIn
import Derived.Deep.AppendLies
set_option maxRecDepth 100000
set_option maxHeartbeats 8000000
namespace Go.Proofs
open Go.RowKit Go.Sort Go.Lib Go.Shelf Go.Maps Go.WideMaps
attribute [local go_sem] Oper.semAt_some
def X3 (tm:Int) (p:Xc->Bool) (ls:List Xc):List Item:=(ls.filter fun l=>(!l.pd&&decide (tm<l.at_))&&p l).map fun l=>Item.lea { l with pd:=true,at_:=tm }
theorem Tryz.Xs1 (vb:Nat) (v:Value) (w:World) (hv:v=.slice none 0 0\/∃ g cap,v=.slice (some ⟨g,0,none⟩) 0 cap):Calls prog 66 #[.pointer (some ⟨vb,0,none⟩),v] w fun e w'=>e=.returned .nilIface/\w'=w:=by
 rcases hv with rfl | ⟨g,cap,rfl⟩
 ·go_enter func66,ntmps66
  go_wp2;go_ret;exact⟨rfl,rfl⟩
 go_enter func66,ntmps66;go_wp2;go_ret;exact⟨rfl,rfl⟩
theorem Mg (w:World) (a b c d e f g h i k:Value) (t:TypeId):∀ j u,[a,b,c,d,e,f,g,h,i,k][j]? = some u->(w.alloc (.cells #[a,b,c,d,e,f,g,h,i,k] t)).cell? ((⟨w.heap.size,0,none⟩:Addr).add j)=some u:=by
 intro j u hj
 match j,hj with
 | 0,hj=>simp at hj;subst hj;simp [Addr.add]
 | 1,hj=>simp at hj;subst hj;simp [Addr.add]
 | 2,hj=>simp at hj;subst hj;simp [Addr.add]
 | 3,hj=>simp at hj;subst hj;simp [Addr.add]
 | 4,hj=>simp at hj;subst hj;simp [Addr.add]
 | 5,hj=>simp at hj;subst hj;simp [Addr.add]
 | 6,hj=>simp at hj;subst hj;simp [Addr.add]
 | 7,hj=>simp at hj;subst hj;simp [Addr.add]
 | 8,hj=>simp at hj;subst hj;simp [Addr.add]
 | 9,hj=>simp at hj;subst hj;simp [Addr.add]
 | (q+10),hj=>simp at hj
theorem Spares.Vz {W W':World} {row:Option Nat} {bs:List Nat} (hg:W.grownBy W' row) (h:∀ r,row=some r->r∈bs):Spares bs W W':=⟨hg.os,hg.tape,hg.output,hg.size,fun k hk hn=>hg.block k hk (fun e=>hn (h k e.symm))⟩
theorem Vl {F:Fence} {n:Nat} {P:Program} {w w':World} {ops:Array Oper} {o:Oper} {a:Act} {K:Act->World->Prop} {Q:Exit->Act->World->Prop} {E:Prop} (hg:o.guard=none) (s x:Operand) (t:TypeId) (hop:o.op=Op.call { callee:=Callee.builtin Builtin.append,args:=#[s,x],argTypes:=#[t,t] }) {v sv r:Value} (hs:a.eval s=v) (hx:a.eval x=sv) (hrun:(Builtin.append_ #[t,t] o.type #[v,sv]).run P w=.ok r w') (h:K (a.put o.dst r) w'):if Region.wanted o (yielded ops a.tmps)=true then Oper.wpIn F n P o a w K Q else E:=by
 have hw:Region.wanted o (yielded ops a.tmps)=true:=by simp [Region.wanted,hg]
 rw [if_pos hw];unfold Oper.wpIn;refine⟨?_,?_⟩
 ·simp [Oper.about,hop,resolve,Target.leads,Sem.run_pure]
 rw [Oper.semAt_plain F _ _ (by rw [hop];intro c hc';cases hc')];simp [execOp,hop,resolve,invoke,builtin,hs,hx,hrun,Result.andThen];exact h
def Tryz.Xiq (t:TypeId):Bool:=t==162||t==135||t==131
theorem Tryz.Xn2 (vb mt ml:Nat) (vx:VX) (tm tn ln:Int) (tks:List Xd) (lks:List Xc) (w:World) (hV:Xq w vb mt ml vx tm tn ln tks lks) (cb:Nat) (p:Xc->Bool)
  (hP:∀ l∈lks,∀ W,Below w.heap.size w W->Calls prog 93 #[.agg l.cells,.pointer (some ⟨cb,0,none⟩)] W fun e w'=>e=.returned (.bool (p l))/\Below W.heap.size W w') :
  CallsIn Fence.wide 9 prog 86 #[.pointer (some ⟨vb,0,none⟩),.func (.func 93) #[] #[.pointer (some ⟨cb,0,none⟩)]] w fun e w'=>∃ v,e=.returned v/\w'.ownsRow w.heap.size 135 10 v (X3 tm p lks).length (Yi ((X3 tm p lks).map Item.rec_))/\Below w.heap.size w w':=by
 obtain⟨i0,hi,hz0,hz1,hz2⟩:=info_parts Xbo;have hfw:Fence.wide.fn 81:=trivial;have hB0:Below w.heap.size w (((w.alloc (.cells #[.pointer (some ⟨vb,0,none⟩)] 76)).alloc (.cells #[.func (.func 93) #[] #[.pointer (some ⟨cb,0,none⟩)]] 165)).alloc (.cells #[.slice none 0 0] 162)):=(((Below.refl _ w).alloc (Nat.le_refl _) _).alloc (by simp) _).alloc (by simp;omega) _;have v1:=cell_later hB0 (hV.v.cell 4 (v:=.map (some ml)) rfl);have lv:=hV.v.lt;refine callsIn_of_wp_marks func86 rfl trivial ?_ rfl;simp only [ntmps86,List.size_toArray,List.length_cons,List.length_nil,Nat.reduceAdd,Nat.reduceSub,Array.replicate_succ,Array.replicate_zero,List.push_toArray,List.append_toArray,List.nil_append,List.cons_append]
 gi_wp2_with (gi_at_call 81;refine(callsIn_wide.2 (Xd3 (some ml) _)).mono ?_;rintro e w' ⟨rfl,rfl⟩)
 clear v1;have bV:=((BoxN.new w 76 #[.pointer (some ⟨vb,0,none⟩)]).alloc (.cells #[.func (.func 93) #[] #[.pointer (some ⟨cb,0,none⟩)]] 165)).alloc (.cells #[.slice none 0 0] 162);have bF:=(BoxN.new (w.alloc (.cells #[.pointer (some ⟨vb,0,none⟩)] 76)) 165 #[.func (.func 93) #[] #[.pointer (some ⟨cb,0,none⟩)]]).alloc (.cells #[.slice none 0 0] 162);have bL:=Boxed.new ((w.alloc (.cells #[.pointer (some ⟨vb,0,none⟩)] 76)).alloc (.cells #[.func (.func 93) #[] #[.pointer (some ⟨cb,0,none⟩)]] 165)) 162 (.slice none 0 0);simp only [World.size_alloc] at bF bL
 have hsz:(((w.alloc (.cells #[.pointer (some ⟨vb,0,none⟩)] 76)).alloc (.cells #[.func (.func 93) #[] #[.pointer (some ⟨cb,0,none⟩)]] 165)).alloc (.cells #[.slice none 0 0] 162)).heap.size=w.heap.size+1+1+1:=by simp
 obtain⟨W0,hW0⟩:∃ W0,((w.alloc (.cells #[.pointer (some ⟨vb,0,none⟩)] 76)).alloc (.cells #[.func (.func 93) #[] #[.pointer (some ⟨cb,0,none⟩)]] 165)).alloc (.cells #[.slice none 0 0] 162)=W0:=⟨_,rfl⟩
 rw [hW0] at bV bF bL hsz hB0 ⊢;clear hW0;have bM:=BoxN.new W0 121 #[.map (some ml)];rw [hsz] at bM;have hB1:=hB0.alloc hB0.size (.cells #[.map (some ml)] 121);have hV1:=hV.below hB1;obtain⟨kL,sL⟩:=hV1.ok.ksL;obtain⟨nL,hnL,mL⟩:=hV1.held.mapL;have bV1:=bV.alloc (.cells #[.map (some ml)] 121);have bF1:=bF.alloc (.cells #[.map (some ml)] 121);have bL1:=bL.alloc (.cells #[.map (some ml)] 121)
 have hsz1:(W0.alloc (.cells #[.map (some ml)] 121)).heap.size=w.heap.size+1+1+1+1:=by simp [hsz]
 have hok:=hV.ok;clear bV bF bL;generalize W0.alloc (.cells #[.map (some ml)] 121)=W1 at *
 refine wpIn_rangeFunc_ownH rfl (by omega) (gf:=139) (lb:=#[.pointer (some ⟨w.heap.size+1+1+1,0,none⟩)]) rfl trivial Xaj
  (J5 8 (by omega) Xiq (by decide) (by decide) (w.heap.size+1+1+1) ml nL (lks.map Xc.key) kL sL (by have:=hok.lenL;simp;omega) (Xc.sh lks) W1 bM mL) Js Jo (Below.refl _ _) (fun _=>rfl)
  (fun pre V=>(((∃ v,Boxed V (w.heap.size+1+1) 162 v/\V.ownsRow w.heap.size 135 10 v (X3 tm p (pre.map Xl)).length (Yi ((X3 tm p (pre.map Xl)).map Item.rec_))/\True)/\BoxN V w.heap.size 76 #[.pointer (some ⟨vb,0,none⟩)])/\BoxN V (w.heap.size+1) 165 #[.func (.func 93) #[] #[.pointer (some ⟨cb,0,none⟩)]])/\Below w.heap.size w V)
  (fun _ _ _=>False)
  (OwnFrom.and (OwnFrom.and (OwnFrom.and (Own.from (holdsRow_own _ _ _ _ _ (fun pre:List { x // x∈lks.map Xc.key }=>(X3 tm p (pre.map Xl)).length) (fun pre=>Yi ((X3 tm p (pre.map Xl)).map Item.rec_)) (fun _ _=>True)) _) (Own.from (Xy _ _ (fun _=>#[.pointer (some ⟨vb,0,none⟩)])) _)) (Own.from (Xy _ _ (fun _=>#[.func (.func 93) #[] #[.pointer (some ⟨cb,0,none⟩)]])) _)) (ownFrom_below (Nat.le_refl _) (by omega)))
  (fun _ _ _ _ _ hs _ _=>hs)
  ⟨⟨⟨⟨_,bL1,World.ownsRow_nil _ _ _ _,trivial⟩,bV1⟩,bF1⟩,hB1⟩
  (fun x a' V=>∃ Bx Bt,w.heap.size+1+1<Bx/\w.heap.size+1+1<Bt/\Bx≠Bt/\BoxN V Bx 114 #[.int .i64 x.1.1.1,.int .u64 x.1.1.2]/\BoxN V Bt 131 (Xl x).cells/\a' = { tmps:=#[.pointer (some ⟨vb,0,none⟩),.func (.func 93) #[] #[.pointer (some ⟨cb,0,none⟩)],.pointer (some ⟨w.heap.size,0,none⟩),.pointer (some ⟨w.heap.size+1,0,none⟩),.slice none 0 0,.pointer (some ⟨w.heap.size+1+1,0,none⟩),.pointer (some ⟨Bx,0,none⟩),.pointer (some ⟨Bt,0,none⟩),.pointer (some ⟨vb,0,none⟩),.pointer (some ⟨vb,0,none⟩),.pointer (some ⟨vb,4,none⟩),.map (some ml),.func (.func 139) #[] #[.pointer (some ⟨w.heap.size+1+1+1,0,none⟩)],.agg #[.int .i64 x.1.1.1,.int .u64 x.1.1.2],.agg (Xl x).cells,undef,undef,undef,undef,undef,undef,undef,undef,undef,undef,undef,undef,undef,undef,undef,undef,undef,undef,undef,undef,undef,undef],defers:=[] })
  (fun x a' _ X Y row hs hgr hr=>by obtain⟨Bx,Bt,h1,h2,h3,h4,h5,h6⟩:=hs;exact⟨Bx,Bt,h1,h2,h3,Xy Bx 114 (fun(_:Unit)=>#[.int .i64 x.1.1.1,.int .u64 x.1.1.2]) () X Y row h4 hgr (fun r e=>(hr r e).2),Xy Bt 131 (fun(_:Unit)=>(Xl x).cells) () X Y row h5 hgr (fun r e=>(hr r e).2),h6⟩)
  ?assign ?body ?done ?stop
 case assign =>
  rintro ll pre x X K ⟨⟨⟨⟨v,b1,hr1,-⟩,bV⟩,bF⟩,hBX⟩ hK
  have e2:x.1.2=.agg (Xl x).cells:=by rw [<- (Zf x).2];rfl
  rw [e2];unfold nmV;simp only [Xc.cells] at hK ⊢
  gi_wp2
  have hBB:Below X.heap.size X ((X.alloc (.cells #[.int .i64 x.1.1.1,.int .u64 x.1.1.2] 114)).alloc (.cells (Xl x).cells 131)):=((Below.refl _ X).alloc (Nat.le_refl _) _).alloc (by simp) _;have hl1:=b1.lt;refine hK _ _ (((KeepsOthers.alloc _ _).from _).trans ((KeepsOthers.alloc _ _).from _)) ((KeepsT.alloc _ _).trans (KeepsT.alloc _ _)) ⟨⟨⟨⟨v,(b1.alloc _).alloc _,(hr1.alloc _).alloc _,trivial⟩,(bV.alloc _).alloc _⟩,(bF.alloc _).alloc _⟩,hBX.trans (hBB.mono hBX.size)⟩ ⟨X.heap.size,X.heap.size+1,hl1,by omega,by omega,(BoxN.new X 114 _).alloc _,?_,?_⟩
  ·have:=BoxN.new (X.alloc (.cells #[.int .i64 x.1.1.1,.int .u64 x.1.1.2] 114)) 131 (Xl x).cells
   rwa [World.size_alloc] at this
  simp
 case body =>
  rintro ll pre x a' V hl ⟨r,hr⟩ ⟨⟨⟨⟨v,b1,hr1,-⟩,bV⟩,bF⟩,hBV⟩ ⟨Bx,Bt,hx1,hx2,hx3,bX,bT,rfl⟩ hlt';obtain⟨ht,hkx⟩:=Zf x
  have hsn:X3 tm p ((pre ++ [x]).map Xl)=X3 tm p (pre.map Xl)++X3 tm p [Xl x]:=by simp [X3]
  obtain⟨tk,htk⟩:∃ tk,Xl x=tk:=⟨_,rfl⟩
  rw [htk] at ht hkx bT hsn ⊢;obtain⟨x,hxm⟩:=x;simp only at hkx;subst hkx
  have hend:∀ V' v',KeepsFrom W1.heap.size V V'->KeepsT Xiq V V'->Boxed V' (w.heap.size+1+1) 162 v'->V'.ownsRow w.heap.size 135 10 v' (X3 tm p (pre.map Xl)++X3 tm p [tk]).length (Yi ((X3 tm p (pre.map Xl)++X3 tm p [tk]).map Item.rec_))->BoxN V' w.heap.size 76 #[.pointer (some ⟨vb,0,none⟩)]->BoxN V' (w.heap.size+1) 165 #[.func (.func 93) #[] #[.pointer (some ⟨cb,0,none⟩)]]->Below w.heap.size w V'->KeepsFrom W1.heap.size V V'/\KeepsT Xiq V V'/\(((∃ v,Boxed V' (w.heap.size+1+1) 162 v/\V'.ownsRow w.heap.size 135 10 v (X3 tm p ((pre ++ [(⟨tk.key,hxm⟩:{ p // p∈lks.map Xc.key })]).map Xl)).length (Yi ((X3 tm p ((pre ++ [(⟨tk.key,hxm⟩:{ p // p∈lks.map Xc.key })]).map Xl)).map Item.rec_))/\True)/\BoxN V' w.heap.size 76 #[.pointer (some ⟨vb,0,none⟩)])/\BoxN V' (w.heap.size+1) 165 #[.func (.func 93) #[] #[.pointer (some ⟨cb,0,none⟩)]])/\Below w.heap.size w V':=fun V' v' h1 h2 h3 h4 h5 h6 h7=>⟨h1,h2,⟨⟨⟨v',h3,by rw [hsn];exact h4,trivial⟩,h5⟩,h6⟩,h7⟩
  have hVV:=hV.below hBV;have ct:=hVV.v.cell 2 (v:=.int .u64 tm) rfl;have cB:=bV.cell 0 (v:=.pointer (some ⟨vb,0,none⟩)) rfl;have cF:=bF.cell 0 (v:=.func (.func 93) #[] #[.pointer (some ⟨cb,0,none⟩)]) rfl;have hL:=J0 Bt tk.pd tk.at_ tm V (bT.cell 4 rfl) (bT.cell 2 rfl);have hPl:=hP tk ht V hBV;have t0:=bT.cell 0 (v:=.int .i64 tk.ak) rfl;have t1:=bT.cell 1 (v:=.int .u64 (tk.au:Int)) rfl;have t2:=bT.cell 2 (v:=.int .u64 tk.at_) rfl;have t3:=bT.cell 3 (v:=.int .i64 tk.tr) rfl;have t4:=bT.cell 4 (v:=.bool tk.pd) rfl;have t5:=bT.cell 5 (v:=.string ⟨tk.pth.toArray⟩) rfl;have t6:=bT.cell 6 (v:=.int .u64 tk.last) rfl;have hfl:Fence.wide.fn 91:=trivial;have hfc:Fence.wide.fn 93:=trivial;have hfr:Fence.wide.fn 90:=trivial;have hfq:Fence.wide.fn 67:=trivial;have HE:=Xb hend;have hBVs:=hBV.size;simp only [Xc.key] at HE ⊢;clear hend hsn hP hVV;simp only [Xc.cells] at hPl ⊢
  by_cases hlv:(!tk.pd&&decide (tm<tk.at_))=true
  ·rw [hlv] at hL
   cases hpt:p tk with
   | false =>
    rw [hpt] at hPl
    have hno:X3 tm p [tk] = []:=by simp [X3,hpt]
    rw [hno,List.append_nil] at HE
    gi_wp2_with (first
     | (gi_at_call 91;refine(callsIn_wide.2 hL).mono ?_;rintro e V ⟨rfl,rfl⟩)
     | (gi_at_call 93;refine(callsIn_wide.2 hPl).mono ?_;rintro e w4 ⟨rfl,hb4⟩))
    exact(Xa HE) _ v (X0 _ hb4) (KeepsT.below hb4) ((show BoxN _ _ _ _ from b1).below hb4 b1.lt) (ownsRow_below hr1 hb4) (bV.below hb4 bV.lt) (bF.below hb4 bF.lt) (hBV.trans (hb4.mono hBVs))
   | true =>
    rw [hpt] at hPl
    have hyes:X3 tm p [tk] = [.lea { tk with pd:=true,at_:=tm }]:=by
     unfold X3;rw [List.filter_cons_of_pos (by rw [hlv,hpt];rfl)];rfl
    rw [hyes] at HE
    gi_wp2_with (first
     | (gi_at_call 91;refine(callsIn_wide.2 hL).mono ?_;rintro e V ⟨rfl,rfl⟩)
     | (gi_at_call 93;refine(callsIn_wide.2 hPl).mono ?_;rintro e w4 ⟨rfl,hb4⟩;have bT4:=bT.below hb4 bT.lt;have bV4:=bV.below hb4 bV.lt;have cB4:=bV4.cell 0 (v:=.pointer (some ⟨vb,0,none⟩)) rfl;have ct4:=cell_later hb4 ct;have hRv:=Xd5 Bt 131 tk.ak (tk.au:Int) tk.at_ tk.tr tm tk.pd [.string ⟨tk.pth.toArray⟩,.int .u64 tk.last] w4 (by simpa [Xc.cells] using bT4))
     | (gi_at_call 90;refine(callsIn_wide.2 hRv).mono ?_;rintro e w5 ⟨rfl,bT5,hs5⟩))
    have hb4':=hb4;have bX5:=hs5.box (bX.below hb4 bX.lt) (fun hm=>hx3 (List.mem_singleton.1 hm));have bL5:BoxN w5 (w.heap.size+1+1) 162 #[v]:=hs5.box ((show BoxN _ _ _ _ from b1).below hb4 b1.lt) (fun hm=>by have:=List.mem_singleton.1 hm;omega);have bV5:=hs5.box bV4 (fun hm=>by have:=List.mem_singleton.1 hm;omega);have bF5:=hs5.box (bF.below hb4 bF.lt) (fun hm=>by have:=List.mem_singleton.1 hm;omega)
    have hr5:=hs5.J2 (ownsRow_below hr1 hb4) (fun g hg hm=>by
     obtain⟨-,cs,hB⟩:=Xm (ownsRow_below hr1 hb4) hg
     exact hB.ne bT4 (by decide) (List.mem_singleton.1 hm))
    have hB5:Below w.heap.size w w5:=(hBV.trans (hb4.mono hBVs)).trans (hs5.below (Nat.le_trans hBVs hb4.size) (fun b hb=>by rw [List.mem_singleton.1 hb];omega));have kf5:KeepsFrom W1.heap.size V w5:=Yk ((X0 0 hb4).trans (hs5.Jm (fun b hb=>by rw [List.mem_singleton.1 hb];exact⟨_,_,bT4⟩) 0)) (Nat.zero_le _);have kt5:KeepsT Xiq V w5:=(KeepsT.below hb4).trans (hs5.M9 (fun b hb=>by rw [List.mem_singleton.1 hb];exact⟨_,_,bT4,by decide⟩))
    have hrec:∀ m X,Below w5.heap.size w5 X->CallsIn Fence.wide m prog 67 #[.pointer (some ⟨Bt,0,none⟩),.agg #[.int .i64 2,.int .u64 (tk.n:Int)]] X fun e X'=>e=.returned (.agg (Xi 1 2 (tk.n:Int) tk.ak (tk.au:Int) true tm tk.tr tk.last tk.pth))/\Below X.heap.size X X':=fun m X hbX=>by
     have bTX:=bT5.below hbX bT5.lt;exact callsIn_wide.2 (Uq Bt 2 (tk.n:Int) tk.ak (tk.au:Int) tm tk.tr true tk.pth tk.last X (bTX.cell 0 (by simp)) (bTX.cell 1 (by simp)) (bTX.cell 2 (by simp)) (bTX.cell 3 (by simp)) (bTX.cell 4 (by simp)) (bTX.cell 5 (by simp)) (bTX.cell 6 (by simp)))
    unfold Xi at hrec
    have hlr:(X3 tm p (pre.map Xl)).length<=1000:=by
     have e1:(X3 tm p (pre.map Xl)).length<=(pre.map Xl).length:=by unfold X3;rw [List.length_map];exact List.length_filter_le _ _
     have:=hok.lenL;simp at hlt' e1;omega
    have hfin:∀(V5 w8:World) (g8 cap8:Nat),Below w5.heap.size w5 V5->(V5.alloc (.cells #[.int .i64 1,.int .i64 2,.int .u64 (tk.n:Int),.int .i64 tk.ak,.int .u64 (tk.au:Int),.bool true,.int .u64 tm,.int .i64 tk.tr,.int .u64 tk.last,.string ⟨tk.pth.toArray⟩] 135)).grownBy w8 v.ownBlock->w8.ownsRow w.heap.size 135 10 (.slice (some ⟨g8,0,none⟩) ((X3 tm p (pre.map Xl)).length+1) cap8) ((X3 tm p (pre.map Xl)).length+1) (Yi ((X3 tm p (pre.map Xl)).map Item.rec_) ++ [.int .i64 1,.int .i64 2,.int .u64 (tk.n:Int),.int .i64 tk.ak,.int .u64 (tk.au:Int),.bool true,.int .u64 tm,.int .i64 tk.tr,.int .u64 tk.last,.string ⟨tk.pth.toArray⟩])->BoxN w8 (w.heap.size+1+1) 162 #[v]->_:=fun V5 w8 g8 cap8 hw5 h83 h82 bL8=>by
     have hS8:Spares (v.ownBlock.toList ++ [w.heap.size+1+1]) w5 w8:=((Spares.of_below hw5).alloc _).trans (Spares.Vz h83 (fun r hr=>List.mem_append_left _ (by simpa using hr)));have hS9:Spares [w.heap.size+1+1] w8 (w8.setCell ⟨w.heap.size+1+1,0,none⟩ (.slice (some ⟨g8,0,none⟩) ((X3 tm p (pre.map Xl)).length+1) cap8)):=(Spares.of_below (Below.refl _ w8)).set (by simp) _ _;have hS:=hS8.trans (hS9.mono (fun b hb=>List.mem_append_right _ hb))
     have hbx:∀ b∈v.ownBlock.toList ++ [w.heap.size+1+1],∃ t cs,BoxN w5 b t cs/\(t=135\/t=162)/\w.heap.size<=b:=fun b hb=>by
      rcases List.mem_append.1 hb with hb | hb
      ·obtain⟨hlo,cs,hB⟩:=Xm hr5 (g:=b) (by simpa using hb)
       exact⟨_,_,hB,.inl rfl,hlo⟩
      rw [List.mem_singleton.1 hb];exact⟨_,_,bL5,.inr rfl,by omega⟩
     have hno:∀ {b:Nat} {t:TypeId} {cs:Array Value},BoxN w5 b t cs->t≠135->t≠162->b∉v.ownBlock.toList ++ [w.heap.size+1+1]:=fun hB n1 n2 hm=>by
      obtain⟨t',cs',hB',ht',-⟩:=hbx _ hm
      rcases ht' with rfl | rfl
      ·exact hB.ne hB' n1 rfl
      exact hB.ne hB' n2 rfl
     have hrow9:=hS9.J2 h82 (fun g hg hm=>by
      obtain⟨-,cs,hB⟩:=Xm h82 hg
      exact hB.ne bL8 (by decide) (List.mem_singleton.1 hm))
     exact(Xa HE) _ (.slice (some ⟨g8,0,none⟩) ((X3 tm p (pre.map Xl)).length+1) cap8) (kf5.trans (Yk (hS.Jm (fun b hb=>by obtain⟨t,cs,hB,-,-⟩:=hbx b hb;exact⟨t,cs,hB⟩) 0) (Nat.zero_le _))) (kt5.trans (hS.M9 (fun b hb=>by obtain⟨t,cs,hB,ht,-⟩:=hbx b hb;exact⟨t,cs,hB,by rcases ht with rfl | rfl <;> decide⟩))) (bL8.set 0 (.slice (some ⟨g8,0,none⟩) ((X3 tm p (pre.map Xl)).length+1) cap8)) (by simpa [Yi,Item.rec_,Xc.rec_,Yf.cells,Xi] using hrow9) (hS.box bV5 (hno bV5 (by decide) (by decide))) (hS.box bF5 (hno bF5 (by decide) (by decide))) (hB5.trans (hS.below hB5.size (fun b hb=>by obtain⟨t,cs,hB,-,hlo⟩:=hbx b hb;exact hlo)))
    have HFI:=Xb hfin;clear hfin;have y0:=bX5.cell 0 (v:=.int .i64 2) rfl;have y1:=bX5.cell 1 (v:=.int .u64 (tk.n:Int)) rfl;have yL:=bL5.cell 0 (v:=v) rfl;have fL:=bL5.frozen 0;have HK:=Xb (And.intro kf5 (And.intro kt5 (And.intro bV5 (And.intro bF5 (And.intro hB5 (And.intro hr5 bL5))))));clear kf5 kt5 bV5 bF5 hB5 hr5 hs5 bT5 bT4 bV4 cB4 ct4 hRv hb4 hb4' t0 t1 t2 t3 t4 t5 t6 cF cB ct hL hPl bT bX b1 hr1 bV bF hBV bM hB1 hV1 mL bV1 bF1 bL1 hB0 kL sL;refine wpIn_region_any (by kernel_rfl) (X2 ll (by kernel_rfl) _ _ _ _ ?_)
    change wpAnyIn _ _ _ _ _ _ _ _ _ (World.drew _)
    refine Xs 0 1 rfl rfl (fun K hK=>?_) fun K hK=>?_
    focus
     go_simp;refine hK _ _ ?_;clear hK K;refine Xr 1 rfl fun K hK=>?_;go_simp;refine hK _ _ ?_;clear hK K;refine Xr 2 rfl fun K hK=>?_;go_simp;refine(hrec _ w5.drew (Below.refl _ _).drew).mono ?_;rintro e V5 ⟨rfl,hb5⟩;have hw5:Below w5.heap.size w5 V5:=(Below.refl _ w5).drew.trans hb5;have bL6:=bL5.below hw5 bL5.lt;have yL6:=bL6.cell 0 (v:=v) rfl;have bL7:=bL6.alloc (.cells #[.int .i64 1,.int .i64 2,.int .u64 (tk.n:Int),.int .i64 tk.ak,.int .u64 (tk.au:Int),.bool true,.int .u64 tm,.int .i64 tk.tr,.int .u64 tk.last,.string ⟨tk.pth.toArray⟩] 135);have yL7:=bL7.cell 0 (v:=v) rfl;have lL6:=bL6.lt;refine hK _ _ ?_;clear hK K;refine wpAnyIn_ready (rs:=[3]) (by kernel_rfl) (by simp) ?_
    rotate_left
    focus
     go_simp;refine hK _ _ ?_;clear hK K;refine Xs 0 2 rfl rfl (fun K hK=>?_) fun K hK=>?_
     focus
      go_simp;refine hK _ _ ?_;clear hK K;refine Xr 2 rfl fun K hK=>?_;go_simp;refine(hrec _ w5.drew (Below.refl _ _).drew).mono ?_;rintro e V5 ⟨rfl,hb5⟩;have hw5:Below w5.heap.size w5 V5:=(Below.refl _ w5).drew.trans hb5;have bL6:=bL5.below hw5 bL5.lt;have yL6:=bL6.cell 0 (v:=v) rfl;have bL7:=bL6.alloc (.cells #[.int .i64 1,.int .i64 2,.int .u64 (tk.n:Int),.int .i64 tk.ak,.int .u64 (tk.au:Int),.bool true,.int .u64 tm,.int .i64 tk.tr,.int .u64 tk.last,.string ⟨tk.pth.toArray⟩] 135);have yL7:=bL7.cell 0 (v:=v) rfl;have lL6:=bL6.lt;refine hK _ _ ?_;clear hK K;refine wpAnyIn_ready (rs:=[3]) (by kernel_rfl) (by simp) ?_
     rotate_left
     focus
      go_simp;refine(hrec _ w5.drew (Below.refl _ _).drew).mono ?_;rintro e V5 ⟨rfl,hb5⟩;have hw5:Below w5.heap.size w5 V5:=(Below.refl _ w5).drew.trans hb5;have bL6:=bL5.below hw5 bL5.lt;have yL6:=bL6.cell 0 (v:=v) rfl;have bL7:=bL6.alloc (.cells #[.int .i64 1,.int .i64 2,.int .u64 (tk.n:Int),.int .i64 tk.ak,.int .u64 (tk.au:Int),.bool true,.int .u64 tm,.int .i64 tk.tr,.int .u64 tk.last,.string ⟨tk.pth.toArray⟩] 135);have yL7:=bL7.cell 0 (v:=v) rfl;have lL6:=bL6.lt;refine hK _ _ ?_;clear hK K;refine Xs 0 3 rfl rfl (fun K hK=>?_) fun K hK=>?_
      focus
       go_simp;refine hK _ _ ?_;clear hK K;refine wpAnyIn_ready (rs:=[3]) (by kernel_rfl) (by simp) ?_
      rotate_left
      focus
       go_simp;refine hK _ _ ?_;clear hK K;refine wpAnyIn_ready (rs:=[0]) (by kernel_rfl) (by simp) ?_
      rotate_left
     rotate_left 2
    rotate_left 3
    all_goals
     refine AllReadyIn.cons rfl (fun K hK=>?_) (AllReadyIn.nil);go_simp;refine hK _ _ ?_;clear hK K;refine Xr 4 rfl fun K hK=>?_;have hr7:=(ownsRow_below (Xa HK).2.2.2.2.2.1 hw5).alloc (.cells #[.int .i64 1,.int .i64 2,.int .u64 (tk.n:Int),.int .i64 tk.ak,.int .u64 (tk.au:Int),.bool true,.int .u64 tm,.int .i64 tk.tr,.int .u64 tk.last,.string ⟨tk.pth.toArray⟩] 135);have hsz7:=hw5.size;obtain⟨g8,cap8,w8,hrun,h82,h83,h84,-⟩:=run_append_lies (P:=prog) (V5.alloc (.cells #[.int .i64 1,.int .i64 2,.int .u64 (tk.n:Int),.int .i64 tk.ak,.int .u64 (tk.au:Int),.bool true,.int .u64 tm,.int .i64 tk.tr,.int .u64 tk.last,.string ⟨tk.pth.toArray⟩] 135)) 162 162 w.heap.size 135 i0 _ 10 88 underlying162 hi hz0 hz1 hz2 rfl (by decide) v _ _ hr7 ⟨V5.heap.size,0,none⟩ 1 1 [.int .i64 1,.int .i64 2,.int .u64 (tk.n:Int),.int .i64 tk.ak,.int .u64 (tk.au:Int),.bool true,.int .u64 tm,.int .i64 tk.tr,.int .u64 tk.last,.string ⟨tk.pth.toArray⟩] rfl (Mg _ _ _ _ _ _ _ _ _ _ _ _) (by simp [Value.oneCell']) (by omega) (by unfold maxLen;omega) (by omega) (by simp;omega) _ rfl;have bL8:=bL7.kept h83 (BoxN.not_row bL7 (by decide) hr7);have yL8:=bL8.cell 0 (v:=v) rfl;have fL8:=bL8.frozen 0;refine Vl rfl _ _ _ rfl rfl rfl hrun ?_;refine hK _ _ ?_;clear hK K;refine Xr 5 rfl fun K hK=>?_;go_simp;refine hK _ _ ?_;clear hK K;refine wpAnyIn_done (by kernel_rfl) ?_ _
     gi_wp2
     exact(Xa HFI) _ _ _ _ hw5 h83 h82 bL8
  have hlv':(!tk.pd&&decide (tm<tk.at_))=false:=by simpa using hlv
  rw [hlv'] at hL
  have hno:X3 tm p [tk] = []:=by simp only [X3,List.filter_cons,hlv',Bool.false_and];rfl
  rw [hno,List.append_nil] at HE
  gi_wp2_with (gi_at_call 91;refine(callsIn_wide.2 hL).mono ?_;rintro e V ⟨rfl,rfl⟩)
  refine⟨fun f h=>(by cases h),?_⟩
  gi_wp2
  exact(Xa HE) _ v (X0 _ (Below.refl _ _)) (KeepsT.below (Below.refl _ _)) b1 hr1 bV bF hBV
 case done =>
  rintro D zs V hD hzs ⟨⟨⟨⟨v,b1,hr1,-⟩,bV⟩,bF⟩,hBV⟩ hK;have cS:=b1.cell
  have hzs':zs.map Xl=lks:=by rw [hzs];exact Uw hok.incL
  rw [hzs'] at hr1
  gi_wp2
  refine⟨by simp,.inl ⟨_,_,rfl,run_takeDeferred hK,?_⟩⟩;exact⟨_,results_tmp rfl _ _ _,v,rfl,ownsRow_putObj hr1 _ hK rfl,hBV.trans (belowK_b (w:=w) (Nat.le_refl _) V D _ _ (by omega) hK rfl rfl)⟩
 case stop =>
  rintro D c pre V _ _ h _;exact h.elim
theorem Tryz.Xpc (vb mt ml:Nat) (vx:VX) (tm tn ln:Int) (tks:List Xd) (lks:List Xc) (w:World) (hV:Xq w vb mt ml vx tm tn ln tks lks) (cb tb:Nat) (p:Xc->Bool)
  (hP:∀ l∈lks,∀ W,Below w.heap.size w W->Calls prog 87 #[.agg l.cells,.pointer (some ⟨cb,0,none⟩),.pointer (some ⟨tb,0,none⟩)] W fun e w'=>e=.returned (.bool (p l))/\Below W.heap.size W w') :
  CallsIn Fence.wide 9 prog 86 #[.pointer (some ⟨vb,0,none⟩),.func (.func 87) #[] #[.pointer (some ⟨cb,0,none⟩),.pointer (some ⟨tb,0,none⟩)]] w fun e w'=>∃ v,e=.returned v/\w'.ownsRow w.heap.size 135 10 v (X3 tm p lks).length (Yi ((X3 tm p lks).map Item.rec_))/\Below w.heap.size w w':=by
 obtain⟨i0,hi,hz0,hz1,hz2⟩:=info_parts Xbo;have hfw:Fence.wide.fn 81:=trivial;have hB0:Below w.heap.size w (((w.alloc (.cells #[.pointer (some ⟨vb,0,none⟩)] 76)).alloc (.cells #[.func (.func 87) #[] #[.pointer (some ⟨cb,0,none⟩),.pointer (some ⟨tb,0,none⟩)]] 165)).alloc (.cells #[.slice none 0 0] 162)):=(((Below.refl _ w).alloc (Nat.le_refl _) _).alloc (by simp) _).alloc (by simp;omega) _;have v1:=cell_later hB0 (hV.v.cell 4 (v:=.map (some ml)) rfl);have lv:=hV.v.lt;refine callsIn_of_wp_marks func86 rfl trivial ?_ rfl;simp only [ntmps86,List.size_toArray,List.length_cons,List.length_nil,Nat.reduceAdd,Nat.reduceSub,Array.replicate_succ,Array.replicate_zero,List.push_toArray,List.append_toArray,List.nil_append,List.cons_append]
 gi_wp2_with (gi_at_call 81;refine(callsIn_wide.2 (Xd3 (some ml) _)).mono ?_;rintro e w' ⟨rfl,rfl⟩)
 clear v1;have bV:=((BoxN.new w 76 #[.pointer (some ⟨vb,0,none⟩)]).alloc (.cells #[.func (.func 87) #[] #[.pointer (some ⟨cb,0,none⟩),.pointer (some ⟨tb,0,none⟩)]] 165)).alloc (.cells #[.slice none 0 0] 162);have bF:=(BoxN.new (w.alloc (.cells #[.pointer (some ⟨vb,0,none⟩)] 76)) 165 #[.func (.func 87) #[] #[.pointer (some ⟨cb,0,none⟩),.pointer (some ⟨tb,0,none⟩)]]).alloc (.cells #[.slice none 0 0] 162);have bL:=Boxed.new ((w.alloc (.cells #[.pointer (some ⟨vb,0,none⟩)] 76)).alloc (.cells #[.func (.func 87) #[] #[.pointer (some ⟨cb,0,none⟩),.pointer (some ⟨tb,0,none⟩)]] 165)) 162 (.slice none 0 0);simp only [World.size_alloc] at bF bL
 have hsz:(((w.alloc (.cells #[.pointer (some ⟨vb,0,none⟩)] 76)).alloc (.cells #[.func (.func 87) #[] #[.pointer (some ⟨cb,0,none⟩),.pointer (some ⟨tb,0,none⟩)]] 165)).alloc (.cells #[.slice none 0 0] 162)).heap.size=w.heap.size+1+1+1:=by simp
 obtain⟨W0,hW0⟩:∃ W0,((w.alloc (.cells #[.pointer (some ⟨vb,0,none⟩)] 76)).alloc (.cells #[.func (.func 87) #[] #[.pointer (some ⟨cb,0,none⟩),.pointer (some ⟨tb,0,none⟩)]] 165)).alloc (.cells #[.slice none 0 0] 162)=W0:=⟨_,rfl⟩
 rw [hW0] at bV bF bL hsz hB0 ⊢;clear hW0;have bM:=BoxN.new W0 121 #[.map (some ml)];rw [hsz] at bM;have hB1:=hB0.alloc hB0.size (.cells #[.map (some ml)] 121);have hV1:=hV.below hB1;obtain⟨kL,sL⟩:=hV1.ok.ksL;obtain⟨nL,hnL,mL⟩:=hV1.held.mapL;have bV1:=bV.alloc (.cells #[.map (some ml)] 121);have bF1:=bF.alloc (.cells #[.map (some ml)] 121);have bL1:=bL.alloc (.cells #[.map (some ml)] 121)
 have hsz1:(W0.alloc (.cells #[.map (some ml)] 121)).heap.size=w.heap.size+1+1+1+1:=by simp [hsz]
 have hok:=hV.ok;clear bV bF bL;generalize W0.alloc (.cells #[.map (some ml)] 121)=W1 at *
 refine wpIn_rangeFunc_ownH rfl (by omega) (gf:=139) (lb:=#[.pointer (some ⟨w.heap.size+1+1+1,0,none⟩)]) rfl trivial Xaj
  (J5 8 (by omega) Xiq (by decide) (by decide) (w.heap.size+1+1+1) ml nL (lks.map Xc.key) kL sL (by have:=hok.lenL;simp;omega) (Xc.sh lks) W1 bM mL) Js Jo (Below.refl _ _) (fun _=>rfl)
  (fun pre V=>(((∃ v,Boxed V (w.heap.size+1+1) 162 v/\V.ownsRow w.heap.size 135 10 v (X3 tm p (pre.map Xl)).length (Yi ((X3 tm p (pre.map Xl)).map Item.rec_))/\True)/\BoxN V w.heap.size 76 #[.pointer (some ⟨vb,0,none⟩)])/\BoxN V (w.heap.size+1) 165 #[.func (.func 87) #[] #[.pointer (some ⟨cb,0,none⟩),.pointer (some ⟨tb,0,none⟩)]])/\Below w.heap.size w V)
  (fun _ _ _=>False)
  (OwnFrom.and (OwnFrom.and (OwnFrom.and (Own.from (holdsRow_own _ _ _ _ _ (fun pre:List { x // x∈lks.map Xc.key }=>(X3 tm p (pre.map Xl)).length) (fun pre=>Yi ((X3 tm p (pre.map Xl)).map Item.rec_)) (fun _ _=>True)) _) (Own.from (Xy _ _ (fun _=>#[.pointer (some ⟨vb,0,none⟩)])) _)) (Own.from (Xy _ _ (fun _=>#[.func (.func 87) #[] #[.pointer (some ⟨cb,0,none⟩),.pointer (some ⟨tb,0,none⟩)]])) _)) (ownFrom_below (Nat.le_refl _) (by omega)))
  (fun _ _ _ _ _ hs _ _=>hs)
  ⟨⟨⟨⟨_,bL1,World.ownsRow_nil _ _ _ _,trivial⟩,bV1⟩,bF1⟩,hB1⟩
  (fun x a' V=>∃ Bx Bt,w.heap.size+1+1<Bx/\w.heap.size+1+1<Bt/\Bx≠Bt/\BoxN V Bx 114 #[.int .i64 x.1.1.1,.int .u64 x.1.1.2]/\BoxN V Bt 131 (Xl x).cells/\a' = { tmps:=#[.pointer (some ⟨vb,0,none⟩),.func (.func 87) #[] #[.pointer (some ⟨cb,0,none⟩),.pointer (some ⟨tb,0,none⟩)],.pointer (some ⟨w.heap.size,0,none⟩),.pointer (some ⟨w.heap.size+1,0,none⟩),.slice none 0 0,.pointer (some ⟨w.heap.size+1+1,0,none⟩),.pointer (some ⟨Bx,0,none⟩),.pointer (some ⟨Bt,0,none⟩),.pointer (some ⟨vb,0,none⟩),.pointer (some ⟨vb,0,none⟩),.pointer (some ⟨vb,4,none⟩),.map (some ml),.func (.func 139) #[] #[.pointer (some ⟨w.heap.size+1+1+1,0,none⟩)],.agg #[.int .i64 x.1.1.1,.int .u64 x.1.1.2],.agg (Xl x).cells,undef,undef,undef,undef,undef,undef,undef,undef,undef,undef,undef,undef,undef,undef,undef,undef,undef,undef,undef,undef,undef,undef],defers:=[] })
  (fun x a' _ X Y row hs hgr hr=>by obtain⟨Bx,Bt,h1,h2,h3,h4,h5,h6⟩:=hs;exact⟨Bx,Bt,h1,h2,h3,Xy Bx 114 (fun(_:Unit)=>#[.int .i64 x.1.1.1,.int .u64 x.1.1.2]) () X Y row h4 hgr (fun r e=>(hr r e).2),Xy Bt 131 (fun(_:Unit)=>(Xl x).cells) () X Y row h5 hgr (fun r e=>(hr r e).2),h6⟩)
  ?assign ?body ?done ?stop
 case assign =>
  rintro ll pre x X K ⟨⟨⟨⟨v,b1,hr1,-⟩,bV⟩,bF⟩,hBX⟩ hK
  have e2:x.1.2=.agg (Xl x).cells:=by rw [<- (Zf x).2];rfl
  rw [e2];unfold nmV;simp only [Xc.cells] at hK ⊢
  gi_wp2
  have hBB:Below X.heap.size X ((X.alloc (.cells #[.int .i64 x.1.1.1,.int .u64 x.1.1.2] 114)).alloc (.cells (Xl x).cells 131)):=((Below.refl _ X).alloc (Nat.le_refl _) _).alloc (by simp) _;have hl1:=b1.lt;refine hK _ _ (((KeepsOthers.alloc _ _).from _).trans ((KeepsOthers.alloc _ _).from _)) ((KeepsT.alloc _ _).trans (KeepsT.alloc _ _)) ⟨⟨⟨⟨v,(b1.alloc _).alloc _,(hr1.alloc _).alloc _,trivial⟩,(bV.alloc _).alloc _⟩,(bF.alloc _).alloc _⟩,hBX.trans (hBB.mono hBX.size)⟩ ⟨X.heap.size,X.heap.size+1,hl1,by omega,by omega,(BoxN.new X 114 _).alloc _,?_,?_⟩
  ·have:=BoxN.new (X.alloc (.cells #[.int .i64 x.1.1.1,.int .u64 x.1.1.2] 114)) 131 (Xl x).cells
   rwa [World.size_alloc] at this
  simp
 case body =>
  rintro ll pre x a' V hl ⟨r,hr⟩ ⟨⟨⟨⟨v,b1,hr1,-⟩,bV⟩,bF⟩,hBV⟩ ⟨Bx,Bt,hx1,hx2,hx3,bX,bT,rfl⟩ hlt';obtain⟨ht,hkx⟩:=Zf x
  have hsn:X3 tm p ((pre ++ [x]).map Xl)=X3 tm p (pre.map Xl)++X3 tm p [Xl x]:=by simp [X3]
  obtain⟨tk,htk⟩:∃ tk,Xl x=tk:=⟨_,rfl⟩
  rw [htk] at ht hkx bT hsn ⊢;obtain⟨x,hxm⟩:=x;simp only at hkx;subst hkx
  have hend:∀ V' v',KeepsFrom W1.heap.size V V'->KeepsT Xiq V V'->Boxed V' (w.heap.size+1+1) 162 v'->V'.ownsRow w.heap.size 135 10 v' (X3 tm p (pre.map Xl)++X3 tm p [tk]).length (Yi ((X3 tm p (pre.map Xl)++X3 tm p [tk]).map Item.rec_))->BoxN V' w.heap.size 76 #[.pointer (some ⟨vb,0,none⟩)]->BoxN V' (w.heap.size+1) 165 #[.func (.func 87) #[] #[.pointer (some ⟨cb,0,none⟩),.pointer (some ⟨tb,0,none⟩)]]->Below w.heap.size w V'->KeepsFrom W1.heap.size V V'/\KeepsT Xiq V V'/\(((∃ v,Boxed V' (w.heap.size+1+1) 162 v/\V'.ownsRow w.heap.size 135 10 v (X3 tm p ((pre ++ [(⟨tk.key,hxm⟩:{ p // p∈lks.map Xc.key })]).map Xl)).length (Yi ((X3 tm p ((pre ++ [(⟨tk.key,hxm⟩:{ p // p∈lks.map Xc.key })]).map Xl)).map Item.rec_))/\True)/\BoxN V' w.heap.size 76 #[.pointer (some ⟨vb,0,none⟩)])/\BoxN V' (w.heap.size+1) 165 #[.func (.func 87) #[] #[.pointer (some ⟨cb,0,none⟩),.pointer (some ⟨tb,0,none⟩)]])/\Below w.heap.size w V':=fun V' v' h1 h2 h3 h4 h5 h6 h7=>⟨h1,h2,⟨⟨⟨v',h3,by rw [hsn];exact h4,trivial⟩,h5⟩,h6⟩,h7⟩
  have hVV:=hV.below hBV;have ct:=hVV.v.cell 2 (v:=.int .u64 tm) rfl;have cB:=bV.cell 0 (v:=.pointer (some ⟨vb,0,none⟩)) rfl;have cF:=bF.cell 0 (v:=.func (.func 87) #[] #[.pointer (some ⟨cb,0,none⟩),.pointer (some ⟨tb,0,none⟩)]) rfl;have hL:=J0 Bt tk.pd tk.at_ tm V (bT.cell 4 rfl) (bT.cell 2 rfl);have hPl:=hP tk ht V hBV;have t0:=bT.cell 0 (v:=.int .i64 tk.ak) rfl;have t1:=bT.cell 1 (v:=.int .u64 (tk.au:Int)) rfl;have t2:=bT.cell 2 (v:=.int .u64 tk.at_) rfl;have t3:=bT.cell 3 (v:=.int .i64 tk.tr) rfl;have t4:=bT.cell 4 (v:=.bool tk.pd) rfl;have t5:=bT.cell 5 (v:=.string ⟨tk.pth.toArray⟩) rfl;have t6:=bT.cell 6 (v:=.int .u64 tk.last) rfl;have hfl:Fence.wide.fn 91:=trivial;have hfc:Fence.wide.fn 87:=trivial;have hfr:Fence.wide.fn 90:=trivial;have hfq:Fence.wide.fn 67:=trivial;have HE:=Xb hend;have hBVs:=hBV.size;simp only [Xc.key] at HE ⊢;clear hend hsn hP hVV;simp only [Xc.cells] at hPl ⊢
  by_cases hlv:(!tk.pd&&decide (tm<tk.at_))=true
  ·rw [hlv] at hL
   cases hpt:p tk with
   | false =>
    rw [hpt] at hPl
    have hno:X3 tm p [tk] = []:=by simp [X3,hpt]
    rw [hno,List.append_nil] at HE
    gi_wp2_with (first
     | (gi_at_call 91;refine(callsIn_wide.2 hL).mono ?_;rintro e V ⟨rfl,rfl⟩)
     | (gi_at_call 87;refine(callsIn_wide.2 hPl).mono ?_;rintro e w4 ⟨rfl,hb4⟩))
    exact(Xa HE) _ v (X0 _ hb4) (KeepsT.below hb4) ((show BoxN _ _ _ _ from b1).below hb4 b1.lt) (ownsRow_below hr1 hb4) (bV.below hb4 bV.lt) (bF.below hb4 bF.lt) (hBV.trans (hb4.mono hBVs))
   | true =>
    rw [hpt] at hPl
    have hyes:X3 tm p [tk] = [.lea { tk with pd:=true,at_:=tm }]:=by
     unfold X3;rw [List.filter_cons_of_pos (by rw [hlv,hpt];rfl)];rfl
    rw [hyes] at HE
    gi_wp2_with (first
     | (gi_at_call 91;refine(callsIn_wide.2 hL).mono ?_;rintro e V ⟨rfl,rfl⟩)
     | (gi_at_call 87;refine(callsIn_wide.2 hPl).mono ?_;rintro e w4 ⟨rfl,hb4⟩;have bT4:=bT.below hb4 bT.lt;have bV4:=bV.below hb4 bV.lt;have cB4:=bV4.cell 0 (v:=.pointer (some ⟨vb,0,none⟩)) rfl;have ct4:=cell_later hb4 ct;have hRv:=Xd5 Bt 131 tk.ak (tk.au:Int) tk.at_ tk.tr tm tk.pd [.string ⟨tk.pth.toArray⟩,.int .u64 tk.last] w4 (by simpa [Xc.cells] using bT4))
     | (gi_at_call 90;refine(callsIn_wide.2 hRv).mono ?_;rintro e w5 ⟨rfl,bT5,hs5⟩))
    have hb4':=hb4;have bX5:=hs5.box (bX.below hb4 bX.lt) (fun hm=>hx3 (List.mem_singleton.1 hm));have bL5:BoxN w5 (w.heap.size+1+1) 162 #[v]:=hs5.box ((show BoxN _ _ _ _ from b1).below hb4 b1.lt) (fun hm=>by have:=List.mem_singleton.1 hm;omega);have bV5:=hs5.box bV4 (fun hm=>by have:=List.mem_singleton.1 hm;omega);have bF5:=hs5.box (bF.below hb4 bF.lt) (fun hm=>by have:=List.mem_singleton.1 hm;omega)
    have hr5:=hs5.J2 (ownsRow_below hr1 hb4) (fun g hg hm=>by
     obtain⟨-,cs,hB⟩:=Xm (ownsRow_below hr1 hb4) hg
     exact hB.ne bT4 (by decide) (List.mem_singleton.1 hm))
    have hB5:Below w.heap.size w w5:=(hBV.trans (hb4.mono hBVs)).trans (hs5.below (Nat.le_trans hBVs hb4.size) (fun b hb=>by rw [List.mem_singleton.1 hb];omega));have kf5:KeepsFrom W1.heap.size V w5:=Yk ((X0 0 hb4).trans (hs5.Jm (fun b hb=>by rw [List.mem_singleton.1 hb];exact⟨_,_,bT4⟩) 0)) (Nat.zero_le _);have kt5:KeepsT Xiq V w5:=(KeepsT.below hb4).trans (hs5.M9 (fun b hb=>by rw [List.mem_singleton.1 hb];exact⟨_,_,bT4,by decide⟩))
    have hrec:∀ m X,Below w5.heap.size w5 X->CallsIn Fence.wide m prog 67 #[.pointer (some ⟨Bt,0,none⟩),.agg #[.int .i64 2,.int .u64 (tk.n:Int)]] X fun e X'=>e=.returned (.agg (Xi 1 2 (tk.n:Int) tk.ak (tk.au:Int) true tm tk.tr tk.last tk.pth))/\Below X.heap.size X X':=fun m X hbX=>by
     have bTX:=bT5.below hbX bT5.lt;exact callsIn_wide.2 (Uq Bt 2 (tk.n:Int) tk.ak (tk.au:Int) tm tk.tr true tk.pth tk.last X (bTX.cell 0 (by simp)) (bTX.cell 1 (by simp)) (bTX.cell 2 (by simp)) (bTX.cell 3 (by simp)) (bTX.cell 4 (by simp)) (bTX.cell 5 (by simp)) (bTX.cell 6 (by simp)))
    unfold Xi at hrec
    have hlr:(X3 tm p (pre.map Xl)).length<=1000:=by
     have e1:(X3 tm p (pre.map Xl)).length<=(pre.map Xl).length:=by unfold X3;rw [List.length_map];exact List.length_filter_le _ _
     have:=hok.lenL;simp at hlt' e1;omega
    have hfin:∀(V5 w8:World) (g8 cap8:Nat),Below w5.heap.size w5 V5->(V5.alloc (.cells #[.int .i64 1,.int .i64 2,.int .u64 (tk.n:Int),.int .i64 tk.ak,.int .u64 (tk.au:Int),.bool true,.int .u64 tm,.int .i64 tk.tr,.int .u64 tk.last,.string ⟨tk.pth.toArray⟩] 135)).grownBy w8 v.ownBlock->w8.ownsRow w.heap.size 135 10 (.slice (some ⟨g8,0,none⟩) ((X3 tm p (pre.map Xl)).length+1) cap8) ((X3 tm p (pre.map Xl)).length+1) (Yi ((X3 tm p (pre.map Xl)).map Item.rec_) ++ [.int .i64 1,.int .i64 2,.int .u64 (tk.n:Int),.int .i64 tk.ak,.int .u64 (tk.au:Int),.bool true,.int .u64 tm,.int .i64 tk.tr,.int .u64 tk.last,.string ⟨tk.pth.toArray⟩])->BoxN w8 (w.heap.size+1+1) 162 #[v]->_:=fun V5 w8 g8 cap8 hw5 h83 h82 bL8=>by
     have hS8:Spares (v.ownBlock.toList ++ [w.heap.size+1+1]) w5 w8:=((Spares.of_below hw5).alloc _).trans (Spares.Vz h83 (fun r hr=>List.mem_append_left _ (by simpa using hr)));have hS9:Spares [w.heap.size+1+1] w8 (w8.setCell ⟨w.heap.size+1+1,0,none⟩ (.slice (some ⟨g8,0,none⟩) ((X3 tm p (pre.map Xl)).length+1) cap8)):=(Spares.of_below (Below.refl _ w8)).set (by simp) _ _;have hS:=hS8.trans (hS9.mono (fun b hb=>List.mem_append_right _ hb))
     have hbx:∀ b∈v.ownBlock.toList ++ [w.heap.size+1+1],∃ t cs,BoxN w5 b t cs/\(t=135\/t=162)/\w.heap.size<=b:=fun b hb=>by
      rcases List.mem_append.1 hb with hb | hb
      ·obtain⟨hlo,cs,hB⟩:=Xm hr5 (g:=b) (by simpa using hb)
       exact⟨_,_,hB,.inl rfl,hlo⟩
      rw [List.mem_singleton.1 hb];exact⟨_,_,bL5,.inr rfl,by omega⟩
     have hno:∀ {b:Nat} {t:TypeId} {cs:Array Value},BoxN w5 b t cs->t≠135->t≠162->b∉v.ownBlock.toList ++ [w.heap.size+1+1]:=fun hB n1 n2 hm=>by
      obtain⟨t',cs',hB',ht',-⟩:=hbx _ hm
      rcases ht' with rfl | rfl
      ·exact hB.ne hB' n1 rfl
      exact hB.ne hB' n2 rfl
     have hrow9:=hS9.J2 h82 (fun g hg hm=>by
      obtain⟨-,cs,hB⟩:=Xm h82 hg
      exact hB.ne bL8 (by decide) (List.mem_singleton.1 hm))
     exact(Xa HE) _ (.slice (some ⟨g8,0,none⟩) ((X3 tm p (pre.map Xl)).length+1) cap8) (kf5.trans (Yk (hS.Jm (fun b hb=>by obtain⟨t,cs,hB,-,-⟩:=hbx b hb;exact⟨t,cs,hB⟩) 0) (Nat.zero_le _))) (kt5.trans (hS.M9 (fun b hb=>by obtain⟨t,cs,hB,ht,-⟩:=hbx b hb;exact⟨t,cs,hB,by rcases ht with rfl | rfl <;> decide⟩))) (bL8.set 0 (.slice (some ⟨g8,0,none⟩) ((X3 tm p (pre.map Xl)).length+1) cap8)) (by simpa [Yi,Item.rec_,Xc.rec_,Yf.cells,Xi] using hrow9) (hS.box bV5 (hno bV5 (by decide) (by decide))) (hS.box bF5 (hno bF5 (by decide) (by decide))) (hB5.trans (hS.below hB5.size (fun b hb=>by obtain⟨t,cs,hB,-,hlo⟩:=hbx b hb;exact hlo)))
    have HFI:=Xb hfin;clear hfin;have y0:=bX5.cell 0 (v:=.int .i64 2) rfl;have y1:=bX5.cell 1 (v:=.int .u64 (tk.n:Int)) rfl;have yL:=bL5.cell 0 (v:=v) rfl;have fL:=bL5.frozen 0;have HK:=Xb (And.intro kf5 (And.intro kt5 (And.intro bV5 (And.intro bF5 (And.intro hB5 (And.intro hr5 bL5))))));clear kf5 kt5 bV5 bF5 hB5 hr5 hs5 bT5 bT4 bV4 cB4 ct4 hRv hb4 hb4' t0 t1 t2 t3 t4 t5 t6 cF cB ct hL hPl bT bX b1 hr1 bV bF hBV bM hB1 hV1 mL bV1 bF1 bL1 hB0 kL sL;refine wpIn_region_any (by kernel_rfl) (X2 ll (by kernel_rfl) _ _ _ _ ?_)
    change wpAnyIn _ _ _ _ _ _ _ _ _ (World.drew _)
    refine Xs 0 1 rfl rfl (fun K hK=>?_) fun K hK=>?_
    focus
     go_simp;refine hK _ _ ?_;clear hK K;refine Xr 1 rfl fun K hK=>?_;go_simp;refine hK _ _ ?_;clear hK K;refine Xr 2 rfl fun K hK=>?_;go_simp;refine(hrec _ w5.drew (Below.refl _ _).drew).mono ?_;rintro e V5 ⟨rfl,hb5⟩;have hw5:Below w5.heap.size w5 V5:=(Below.refl _ w5).drew.trans hb5;have bL6:=bL5.below hw5 bL5.lt;have yL6:=bL6.cell 0 (v:=v) rfl;have bL7:=bL6.alloc (.cells #[.int .i64 1,.int .i64 2,.int .u64 (tk.n:Int),.int .i64 tk.ak,.int .u64 (tk.au:Int),.bool true,.int .u64 tm,.int .i64 tk.tr,.int .u64 tk.last,.string ⟨tk.pth.toArray⟩] 135);have yL7:=bL7.cell 0 (v:=v) rfl;have lL6:=bL6.lt;refine hK _ _ ?_;clear hK K;refine wpAnyIn_ready (rs:=[3]) (by kernel_rfl) (by simp) ?_
    rotate_left
    focus
     go_simp;refine hK _ _ ?_;clear hK K;refine Xs 0 2 rfl rfl (fun K hK=>?_) fun K hK=>?_
     focus
      go_simp;refine hK _ _ ?_;clear hK K;refine Xr 2 rfl fun K hK=>?_;go_simp;refine(hrec _ w5.drew (Below.refl _ _).drew).mono ?_;rintro e V5 ⟨rfl,hb5⟩;have hw5:Below w5.heap.size w5 V5:=(Below.refl _ w5).drew.trans hb5;have bL6:=bL5.below hw5 bL5.lt;have yL6:=bL6.cell 0 (v:=v) rfl;have bL7:=bL6.alloc (.cells #[.int .i64 1,.int .i64 2,.int .u64 (tk.n:Int),.int .i64 tk.ak,.int .u64 (tk.au:Int),.bool true,.int .u64 tm,.int .i64 tk.tr,.int .u64 tk.last,.string ⟨tk.pth.toArray⟩] 135);have yL7:=bL7.cell 0 (v:=v) rfl;have lL6:=bL6.lt;refine hK _ _ ?_;clear hK K;refine wpAnyIn_ready (rs:=[3]) (by kernel_rfl) (by simp) ?_
     rotate_left
     focus
      go_simp;refine(hrec _ w5.drew (Below.refl _ _).drew).mono ?_;rintro e V5 ⟨rfl,hb5⟩;have hw5:Below w5.heap.size w5 V5:=(Below.refl _ w5).drew.trans hb5;have bL6:=bL5.below hw5 bL5.lt;have yL6:=bL6.cell 0 (v:=v) rfl;have bL7:=bL6.alloc (.cells #[.int .i64 1,.int .i64 2,.int .u64 (tk.n:Int),.int .i64 tk.ak,.int .u64 (tk.au:Int),.bool true,.int .u64 tm,.int .i64 tk.tr,.int .u64 tk.last,.string ⟨tk.pth.toArray⟩] 135);have yL7:=bL7.cell 0 (v:=v) rfl;have lL6:=bL6.lt;refine hK _ _ ?_;clear hK K;refine Xs 0 3 rfl rfl (fun K hK=>?_) fun K hK=>?_
      focus
       go_simp;refine hK _ _ ?_;clear hK K;refine wpAnyIn_ready (rs:=[3]) (by kernel_rfl) (by simp) ?_
      rotate_left
      focus
       go_simp;refine hK _ _ ?_;clear hK K;refine wpAnyIn_ready (rs:=[0]) (by kernel_rfl) (by simp) ?_
      rotate_left
     rotate_left 2
    rotate_left 3
    all_goals
     refine AllReadyIn.cons rfl (fun K hK=>?_) (AllReadyIn.nil);go_simp;refine hK _ _ ?_;clear hK K;refine Xr 4 rfl fun K hK=>?_;have hr7:=(ownsRow_below (Xa HK).2.2.2.2.2.1 hw5).alloc (.cells #[.int .i64 1,.int .i64 2,.int .u64 (tk.n:Int),.int .i64 tk.ak,.int .u64 (tk.au:Int),.bool true,.int .u64 tm,.int .i64 tk.tr,.int .u64 tk.last,.string ⟨tk.pth.toArray⟩] 135);have hsz7:=hw5.size;obtain⟨g8,cap8,w8,hrun,h82,h83,h84,-⟩:=run_append_lies (P:=prog) (V5.alloc (.cells #[.int .i64 1,.int .i64 2,.int .u64 (tk.n:Int),.int .i64 tk.ak,.int .u64 (tk.au:Int),.bool true,.int .u64 tm,.int .i64 tk.tr,.int .u64 tk.last,.string ⟨tk.pth.toArray⟩] 135)) 162 162 w.heap.size 135 i0 _ 10 88 underlying162 hi hz0 hz1 hz2 rfl (by decide) v _ _ hr7 ⟨V5.heap.size,0,none⟩ 1 1 [.int .i64 1,.int .i64 2,.int .u64 (tk.n:Int),.int .i64 tk.ak,.int .u64 (tk.au:Int),.bool true,.int .u64 tm,.int .i64 tk.tr,.int .u64 tk.last,.string ⟨tk.pth.toArray⟩] rfl (Mg _ _ _ _ _ _ _ _ _ _ _ _) (by simp [Value.oneCell']) (by omega) (by unfold maxLen;omega) (by omega) (by simp;omega) _ rfl;have bL8:=bL7.kept h83 (BoxN.not_row bL7 (by decide) hr7);have yL8:=bL8.cell 0 (v:=v) rfl;have fL8:=bL8.frozen 0;refine Vl rfl _ _ _ rfl rfl rfl hrun ?_;refine hK _ _ ?_;clear hK K;refine Xr 5 rfl fun K hK=>?_;go_simp;refine hK _ _ ?_;clear hK K;refine wpAnyIn_done (by kernel_rfl) ?_ _
     gi_wp2
     exact(Xa HFI) _ _ _ _ hw5 h83 h82 bL8
  have hlv':(!tk.pd&&decide (tm<tk.at_))=false:=by simpa using hlv
  rw [hlv'] at hL
  have hno:X3 tm p [tk] = []:=by simp only [X3,List.filter_cons,hlv',Bool.false_and];rfl
  rw [hno,List.append_nil] at HE
  gi_wp2_with (gi_at_call 91;refine(callsIn_wide.2 hL).mono ?_;rintro e V ⟨rfl,rfl⟩)
  refine⟨fun f h=>(by cases h),?_⟩
  gi_wp2
  exact(Xa HE) _ v (X0 _ (Below.refl _ _)) (KeepsT.below (Below.refl _ _)) b1 hr1 bV bF hBV
 case done =>
  rintro D zs V hD hzs ⟨⟨⟨⟨v,b1,hr1,-⟩,bV⟩,bF⟩,hBV⟩ hK;have cS:=b1.cell
  have hzs':zs.map Xl=lks:=by rw [hzs];exact Uw hok.incL
  rw [hzs'] at hr1
  gi_wp2
  refine⟨by simp,.inl ⟨_,_,rfl,run_takeDeferred hK,?_⟩⟩;exact⟨_,results_tmp rfl _ _ _,v,rfl,ownsRow_putObj hr1 _ hK rfl,hBV.trans (belowK_b (w:=w) (Nat.le_refl _) V D _ _ (by omega) hK rfl rfl)⟩
 case stop =>
  rintro D c pre V _ _ h _;exact h.elim
end Go.Proofs
