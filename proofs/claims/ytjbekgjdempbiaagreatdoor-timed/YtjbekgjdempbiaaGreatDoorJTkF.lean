import Derived.Test.YtjbekgjdempbiaaGreatDoorJTkD
set_option maxRecDepth 100000
set_option maxHeartbeats 8000000
namespace Go.Proofs
open Go.RowKit Go.Sort Go.Lib Go.Shelf Go.Maps
theorem nm_step_val {P:Program} {t:TypeId} (T:NmType P t) {ks:List ((Int × Int) × Value)} (hk:KsOk ks) {x:Int × Int} {kl:Lit} {c:Value} {y:DataW Value × List MemPlace} (hkey:keyOf P t (nmV x)=some kl) (hv:valR c=some y) (hat:∀ zd,(mapD ks).atKey kl zd=y.1):NmWf x∧kl=nmL x∧(x,c)∈ks:=by
 obtain⟨x',hw,ex,rfl⟩:=T.inv hkey
 obtain rfl:x=x':=by
  simp only [nmV,Value.agg.injEq] at ex;simp at ex;exact Prod.ext ex.1 ex.2
 refine⟨hw,rfl,?_⟩;have hh:=has_true_of_atKey hat
 cases hg:ksGet ks x with
 | none=>exact absurd ((T.has_none hk hw hg).symm.trans hh) (by decide)
 | some pv =>
  have h1:=T.atKey_mapD hw (.held c) ks hk;rw [hg] at h1;have h2:DataW.held pv=y.1:=h1.symm.trans (hat (.held c))
  have h3:valR c=some (.held pv,y.2):=by rw [hv,h2]
  rw [← valR_held h3] at hg;exact ksGet_mem hg
theorem inc_inj {α:Type} {f:α→Nat} {l:List α} (h:l.Pairwise (fun a b=>f a<f b)) {a b:α} (ha:a∈l) (hb:b∈l) (e:f a=f b):a=b:=by
 induction l with
 | nil=>cases ha
 | cons c l ih =>
  obtain⟨h1,h2⟩:=List.pairwise_cons.1 h
  rcases List.mem_cons.1 ha with e1 | h3
  ·rcases List.mem_cons.1 hb with e2 | h4
   ·exact e1.trans e2.symm
   ·have:=h1 b h4;rw [e1] at e;omega
  ·rcases List.mem_cons.1 hb with e2 | h4
   ·have:=h1 a h3;rw [e2] at e;omega
   ·exact ih h2 h3 h4
theorem Tryz.hasBelow (vb mt ml:Nat) (vx:VX) (tm tn ln:Int) (tks:List TokE) (lks:List LeaE) (w:World) (hV:VaultAt w vb mt ml vx tm tn ln tks lks) (k u:Int) :
  Calls prog 167 #[.pointer (some ⟨vb,0,none⟩),nmV (k,u)] w fun e w'=>e=.returned (.bool (tks.any (fun t=>t.ak==k&&(t.au:Int)==u)||lks.any (fun t=>t.ak==k&&(t.au:Int)==u)))∧Below w.heap.size w w':=by
 obtain⟨rs,hrs⟩:∃ rs,(tks.any (fun t=>t.ak==k&&(t.au:Int)==u)||lks.any (fun t=>t.ak==k&&(t.au:Int)==u))=rs:=⟨_,rfl⟩
 rw [hrs];have HR:=hid_intro hrs;clear hrs;have hB0:Below w.heap.size w (w.alloc (.cells #[.int .i64 k,.int .u64 u] 114)):=(Below.refl _ w).alloc (Nat.le_refl _) _;have bN:=BoxN.new w 114 #[.int .i64 k,.int .u64 u];have hV1:=hV.below hB0
 have hs0:(w.alloc (.cells #[.int .i64 k,.int .u64 u] 114)).heap.size=w.heap.size+1:=by simp
 have lv:=hV.v.lt;unfold nmV;go_enter func167,ntmps167;obtain⟨kT,-⟩:=hV1.ok.ksT;obtain⟨nT,hnT,mT⟩:=hV1.held.mapT;have v3:=hV1.v.cell 3 (v:=.map (some mt)) rfl
 go_wp2_with (first
  | (at_range;refine wpList_range_own _ rfl _ 120 rfl 114 153 keyedName underlying120 _ mt nT _ rfl mT ?_;intro w0 hrg0 hg0 hs0')
  | go_in)
 have hB1:Below w.heap.size w w0:=hB0.trans ⟨hg0.os,hg0.tape,hg0.output,by have:=hg0.size;omega,fun j hj=>hg0.block j (by omega) (by simp)⟩;have bN1:=bN.kept hg0 (by simp);rw [hs0] at hrg0 hs0';rw [hs0];clear v3 mT hV1 hs0 hg0 hB0 bN
 go_frame
 go_loopw [4] (fun v wr=>∃(left:Lit→Bool) (cnt:Nat) (ss:List (Int × Int)),wr.ranges prog 114 valR mt (w.heap.size+1) nT (mapD (tks.map TokE.key).reverse) left cnt∧CollN (tks.map TokE.key).reverse left ss∧(∀ t∈tks,(1,(t.n:Int))∈ss→(t.ak==k&&(t.au:Int)==u)=false)∧Below w.heap.size w wr∧BoxN wr w.heap.size 114 #[.int .i64 k,.int .u64 u]∧v=.bool false)
  (fun _ wr=>wr.rangeLeft mt (w.heap.size+1))
 case atStart =>
  exact⟨_,_,[],hrg0,CollN.start nmType kT,by simp,hB1,bN1,rfl⟩
 case round =>
  clear hrg0 hB1 bN1 hs0';obtain⟨left,cnt,ss,hrg,hC,hno,hB,bNr,rfl⟩:=hrel
  go_wp2_with (first
   | (at_next;refine wpList_next_ranges _ rfl _ rfl 114 keyedName valR nmV (fun v:Value=>v) (fun key kl hk=>by obtain⟨x,_,hx,_⟩:=nmType.inv hk;exact⟨x,hx⟩) (fun v _ _=>⟨v,rfl⟩) mt (w.heap.size+1) nT _ _ _ rfl hrg ?_ ?_)
   | go_in)
  ·intro hc0 hl0
   have hnone:tks.any (fun t=>t.ak==k&&(t.au:Int)==u)=false:=by
    rw [List.any_eq_false];intro t ht;have hp:=(hC.perm kT hl0).mem_iff (a:=(1,(t.n:Int)));have:=hno t ht (hp.2 (List.mem_map.2 ⟨t.key,List.mem_reverse.2 (List.mem_map.2 ⟨t,ht,rfl⟩),rfl⟩))
    simpa using this
   have HR2:=hid_intro (hid_elim HR);rw [hnone,Bool.false_or] at HR2;clear HR hnone hno hC hrg kT;have hV2:=hV.below hB;obtain⟨kL,-⟩:=hV2.ok.ksL;obtain⟨nL,hnL,mL⟩:=hV2.held.mapL;have v4:=hV2.v.cell 4 (v:=.map (some ml)) rfl
   go_wp2_with (first
    | (at_range;refine wpList_range_own _ rfl _ 121 rfl 114 131 keyedName underlying121 _ ml nL _ rfl mL ?_;intro w1 hrg1 hg1 hs1)
    | go_in)
   have hB1:Below w.heap.size w w1:=hB.trans ⟨hg1.os,hg1.tape,hg1.output,by have:=hg1.size;have:=hB.size;omega,fun j hj=>hg1.block j (by have:=hB.size;omega) (by simp)⟩;have bN1:=bNr.kept hg1 (by simp);have hzr:=hB.size;have hlr:=bNr.lt;clear v4 mL hV2 hg1 hB bNr hs1
   obtain⟨r,hr⟩:∃ r,wr.heap.size=r:=⟨_,rfl⟩
   rw [hr] at hrg1 hzr hlr;rw [hr];clear hr
   go_frame
   go_loopw [4] (fun v wr=>∃(left:Lit→Bool) (cnt:Nat) (ss:List (Int × Int)),wr.ranges prog 114 valR ml r nL (mapD (lks.map LeaE.key).reverse) left cnt∧CollN (lks.map LeaE.key).reverse left ss∧(∀ t∈lks,(2,(t.n:Int))∈ss→(t.ak==k&&(t.au:Int)==u)=false)∧Below w.heap.size w wr∧BoxN wr w.heap.size 114 #[.int .i64 k,.int .u64 u]∧v=.bool false)
    (fun _ wr=>wr.rangeLeft ml r)
   case atStart =>
    exact⟨_,_,[],hrg1,CollN.start nmType kL,by simp,hB1,bN1,rfl⟩
   case round =>
    clear hrg1 hB1 bN1;obtain⟨left,cnt,ss,hrg,hC,hno,hB,bNr,rfl⟩:=hrel
    go_wp2_with (first
     | (at_next;refine wpList_next_ranges _ rfl _ rfl 114 keyedName valR nmV (fun v:Value=>v) (fun key kl hk=>by obtain⟨x,_,hx,_⟩:=nmType.inv hk;exact⟨x,hx⟩) (fun v _ _=>⟨v,rfl⟩) ml r nL _ _ _ rfl hrg ?_ ?_)
     | go_in)
    ·intro hc0 hl0
     have hnone:lks.any (fun t=>t.ak==k&&(t.au:Int)==u)=false:=by
      rw [List.any_eq_false];intro t ht;have hp:=(hC.perm kL hl0).mem_iff (a:=(2,(t.n:Int)));have:=hno t ht (hp.2 (List.mem_map.2 ⟨t.key,List.mem_reverse.2 (List.mem_map.2 ⟨t,ht,rfl⟩),rfl⟩))
      simpa using this
     have hfin:=hid_intro ((hid_elim HR2).symm.trans hnone);clear HR2 hnone hno hC hrg kL;go_wp2;go_ret;exact⟨by have:=hid_elim hfin;subst this;rfl,hB⟩
    ·intro a1 a2 c kl yd yp w2 cnt2 hkey hlk hv hat hrg2 hlt hg2 hs2 hen
     obtain⟨x,hx⟩:∃ x:Int × Int,x=(a1,a2):=⟨_,rfl⟩
     rw [← hx] at hkey hen ⊢;clear hx a1 a2;obtain⟨hw,rfl,hin⟩:=nm_step_val nmType kL hkey hv hat;obtain⟨t,ht,hte⟩:=List.mem_map.1 (List.mem_reverse.1 hin)
     obtain⟨rfl,rfl⟩:(2,(t.n:Int))=x ∧ .agg t.cells=c:=⟨congrArg Prod.fst hte,congrArg Prod.snd hte⟩
     have hC2:=hC.step nmType hw hlk (List.mem_map.2 ⟨_,hin,rfl⟩);have bN2:=bNr.kept hg2 (by intro e;injection e with e;omega);have hB2:Below w.heap.size w w2:=hB.trans ⟨hg2.os,hg2.tape,hg2.output,by have:=hg2.size;have:=hB.size;omega,fun j hj=>hg2.block j (by have:=hB.size;omega) (by intro e;injection e with e;omega)⟩;unfold LeaE.cells at hen ⊢;unfold nmV at hen ⊢;have hB3:=hB2.alloc hB2.size (.cells #[.int .i64 t.ak,.int .u64 t.au,.int .u64 t.at_,.int .i64 t.tr,.bool t.pd,.string ⟨t.pth.toArray⟩,.int .u64 t.last] 131);have bN3:=bN2.alloc (.cells #[.int .i64 t.ak,.int .u64 t.au,.int .u64 t.at_,.int .i64 t.tr,.bool t.pd,.string ⟨t.pth.toArray⟩,.int .u64 t.last] 131);have n0:=bN3.cell 0 (v:=.int .i64 k) rfl;have n1:=bN3.cell 1 (v:=.int .u64 u) rfl;have hrg3:=hrg2.of_walks (KeepsWalks.alloc _ (.cells #[.int .i64 t.ak,.int .u64 t.au,.int .u64 t.at_,.int .i64 t.tr,.bool t.pd,.string ⟨t.pth.toArray⟩,.int .u64 t.last] 131));have Hrg:=hid_intro hrg;clear hkey hv hat hs2 hte hin hC hrg hg2 bNr hB
     by_cases hab:(t.ak==k&&(t.au:Int)==u)=true
     ·have hfin:=hid_intro (show rs=true by rw [← hid_elim HR2,List.any_eq_true.2 ⟨t,ht,hab⟩])
      obtain⟨rfl,rfl⟩:t.ak=k∧(t.au:Int)=u:=by simpa using hab
      clear hno hC2 hab HR2;go_wp2;go_ret;exact⟨by have:=hid_elim hfin;subst this;rfl,hB3⟩
     ·have hno2:∀ t'∈lks,(2,(t'.n:Int))∈ss ++ [(2,(t.n:Int))]→(t'.ak==k&&(t'.au:Int)==u)=false:=fun t' ht' hm=>by
       rcases List.mem_append.1 hm with hm | hm
       ·exact hno t' ht' hm
       ·have e:t'.n=t.n:=by
         have:=(Prod.mk.inj (List.mem_singleton.1 hm)).2;omega
        have:t'=t:=inc_inj (f:=LeaE.n) hV.ok.incL ht' ht e;subst this
        simpa using hab
      have hF:=hid_intro (And.intro hrg3 (And.intro hC2 (And.intro hno2 (And.intro hB3 bN3))));have hM:Hid ((w2.alloc (.cells #[.int .i64 t.ak,.int .u64 t.au,.int .u64 t.at_,.int .i64 t.tr,.bool t.pd,.string ⟨t.pth.toArray⟩,.int .u64 t.last] 131)).rangeLeft ml r<wr.rangeLeft ml r):=hid_intro (by rw [hrg3.left_eq,(hid_elim Hrg).left_eq];exact hlt);clear hno hno2 hC2 HR2 hrg3 hB3 bN3 hrg2 hlt Hrg
      by_cases hk1:t.ak=k
      ·have hu1:(t.au:Int)≠u:=fun e=>hab (by simp [hk1,e])
       clear hab;subst hk1;go_wp2;exact⟨⟨_,_,_,(hid_elim hF).1,(hid_elim hF).2.1,(hid_elim hF).2.2.1,(hid_elim hF).2.2.2.1,(hid_elim hF).2.2.2.2,rfl⟩,hid_elim hM⟩
      ·clear hab
       go_wp2;exact⟨⟨_,_,_,(hid_elim hF).1,(hid_elim hF).2.1,(hid_elim hF).2.2.1,(hid_elim hF).2.2.2.1,(hid_elim hF).2.2.2.2,rfl⟩,hid_elim hM⟩
  ·intro a1 a2 c kl yd yp w2 cnt2 hkey hlk hv hat hrg2 hlt hg2 hs2 hen
   obtain⟨x,hx⟩:∃ x:Int × Int,x=(a1,a2):=⟨_,rfl⟩
   rw [← hx] at hkey hen ⊢;clear hx a1 a2;obtain⟨hw,rfl,hin⟩:=nm_step_val nmType kT hkey hv hat;obtain⟨t,ht,hte⟩:=List.mem_map.1 (List.mem_reverse.1 hin)
   obtain⟨rfl,rfl⟩:(1,(t.n:Int))=x ∧ .agg t.cells=c:=⟨congrArg Prod.fst hte,congrArg Prod.snd hte⟩
   have hC2:=hC.step nmType hw hlk (List.mem_map.2 ⟨_,hin,rfl⟩);have bN2:=bNr.kept hg2 (by intro e;injection e with e;omega);have hB2:Below w.heap.size w w2:=hB.trans ⟨hg2.os,hg2.tape,hg2.output,by have:=hg2.size;have:=hB.size;omega,fun j hj=>hg2.block j (by have:=hB.size;omega) (by intro e;injection e with e;omega)⟩;unfold TokE.cells at hen ⊢;unfold nmV at hen ⊢;have hB3:=hB2.alloc hB2.size (.cells #[.int .i64 t.ak,.int .u64 t.au,.int .u64 t.at_,.int .i64 t.tr,.bool t.pd] 153);have bN3:=bN2.alloc (.cells #[.int .i64 t.ak,.int .u64 t.au,.int .u64 t.at_,.int .i64 t.tr,.bool t.pd] 153);have n0:=bN3.cell 0 (v:=.int .i64 k) rfl;have n1:=bN3.cell 1 (v:=.int .u64 u) rfl;have hrg3:=hrg2.of_walks (KeepsWalks.alloc _ (.cells #[.int .i64 t.ak,.int .u64 t.au,.int .u64 t.at_,.int .i64 t.tr,.bool t.pd] 153));have Hrg:=hid_intro hrg;clear hkey hv hat hs2 hte hin hC hrg hg2 bNr hB
   by_cases hab:(t.ak==k&&(t.au:Int)==u)=true
   ·have hfin:=hid_intro (show rs=true by rw [← hid_elim HR,List.any_eq_true.2 ⟨t,ht,hab⟩];rfl)
    obtain⟨rfl,rfl⟩:t.ak=k∧(t.au:Int)=u:=by simpa using hab
    clear hno hC2 hab HR;go_wp2;go_ret;exact⟨by have:=hid_elim hfin;subst this;rfl,hB3⟩
   ·have hno2:∀ t'∈tks,(1,(t'.n:Int))∈ss ++ [(1,(t.n:Int))]→(t'.ak==k&&(t'.au:Int)==u)=false:=fun t' ht' hm=>by
     rcases List.mem_append.1 hm with hm | hm
     ·exact hno t' ht' hm
     ·have e:t'.n=t.n:=by
       have:=(Prod.mk.inj (List.mem_singleton.1 hm)).2;omega
      have:t'=t:=inc_inj (f:=TokE.n) hV.ok.incT ht' ht e;subst this
      simpa using hab
    have hF:=hid_intro (And.intro hrg3 (And.intro hC2 (And.intro hno2 (And.intro hB3 bN3))));have hM:Hid ((w2.alloc (.cells #[.int .i64 t.ak,.int .u64 t.au,.int .u64 t.at_,.int .i64 t.tr,.bool t.pd] 153)).rangeLeft mt (w.heap.size+1)<wr.rangeLeft mt (w.heap.size+1)):=hid_intro (by rw [hrg3.left_eq,(hid_elim Hrg).left_eq];exact hlt);clear hno hno2 hC2 HR hrg3 hB3 bN3 hrg2 hlt Hrg
    by_cases hk1:t.ak=k
    ·have hu1:(t.au:Int)≠u:=fun e=>hab (by simp [hk1,e])
     clear hab;subst hk1;go_wp2;exact⟨⟨_,_,_,(hid_elim hF).1,(hid_elim hF).2.1,(hid_elim hF).2.2.1,(hid_elim hF).2.2.2.1,(hid_elim hF).2.2.2.2,rfl⟩,hid_elim hM⟩
    ·clear hab
     go_wp2;exact⟨⟨_,_,_,(hid_elim hF).1,(hid_elim hF).2.1,(hid_elim hF).2.2.1,(hid_elim hF).2.2.2.1,(hid_elim hF).2.2.2.2,rfl⟩,hid_elim hM⟩
abbrev Tryz.QtP (vb tb nb:Nat) (tm at_ k u:Int) (pd:Bool) (W:World):Prop:=W.cell? ⟨vb,2,none⟩=some (.int .u64 tm)∧W.cell? ⟨tb,2,none⟩=some (.int .u64 at_)∧W.cell? ⟨tb,4,none⟩=some (.bool pd)∧W.cell? ⟨nb,0,none⟩=some (.int .i64 k)∧W.cell? ⟨nb,1,none⟩=some (.int .u64 u)
theorem Tryz.QtP.below {vb tb nb:Nat} {tm at_ k u:Int} {pd:Bool} {W W':World} (h:QtP vb tb nb tm at_ k u pd W) (hb:Below W.heap.size W W'):QtP vb tb nb tm at_ k u pd W':=⟨cell_later hb h.1,cell_later hb h.2.1,cell_later hb h.2.2.1,cell_later hb h.2.2.2.1,cell_later hb h.2.2.2.2⟩
theorem Tryz.queueTok_any (B vb mt ml:Nat) (vx:VX) (tm tn ln:Int) (tks:List TokE) (lks:List LeaE) (w:World) (hV:VaultAt w vb mt ml vx tm tn ln tks lks) (x:Int × Int) (ak au at_ tr:Int) (pd:Bool) (hP:∀ W,Below w.heap.size w W→(Instr.lookup 120 (.map (some mt)) (nmV x) false).run prog W=.ok (.agg #[.int .i64 ak,.int .u64 au,.int .u64 at_,.int .i64 tr,.bool pd]) W)
  (q:List TurnD) (hrow:w.ownsRow B 144 3 vx.due q.length (flatQ q)) (hH:Heap q) (hB:B≤w.heap.size) (hn:q.length≤100) (go:Bool) (hgo:go=(pd&&decide (at_≤tm) && !(tks.any (fun t=>t.ak==x.1&&(t.au:Int)==x.2)||lks.any (fun t=>t.ak==x.1&&(t.au:Int)==x.2)))) :
  Calls prog 130 #[.pointer (some ⟨vb,0,none⟩),nmV x] w fun e w'=>e=.returned (.tuple #[])∧(go=false→Below w.heap.size w w')∧(go=true→∃ g cap ys,QV B vb (vaultC vx tm mt ml tn ln) g cap ys w'∧Heap ys∧ys.Perm (q ++ [⟨at_,x.1,x.2⟩])∧(vx.due.ownBlock=some g∨w.heap.size≤g)∧Spares (vb :: vx.due.ownBlock.toList) w w'):=by
 have hB0:Below w.heap.size w (w.alloc (.cells #[.int .i64 x.1,.int .u64 x.2] 114)):=(Below.refl _ w).alloc (Nat.le_refl _) _;have bN:=BoxN.new w 114 #[.int .i64 x.1,.int .u64 x.2]
 have hs0:(w.alloc (.cells #[.int .i64 x.1,.int .u64 x.2] 114)).heap.size=w.heap.size+1:=by simp
 unfold nmV at *;go_enter func130,ntmps130
 go_wp2_with fail
 generalize (w.alloc (.cells #[.int .i64 x.1,.int .u64 x.2] 114))=W1 at *
 have hS:∀ W,Below (w.heap.size+1) W1 W→LkP1 vb 3 mt w.heap.size 120 x.1 x.2 (.agg #[.int .i64 ak,.int .u64 au,.int .u64 at_,.int .i64 tr,.bool pd]) W:=fun W hb=>by
  have bN':=bN.below hb (by omega);have hB:=hB0.trans (hb.mono (by omega));exact⟨(hV.below hB).v.cell 3 rfl,bN'.cell 0 rfl,bN'.cell 1 rfl,hP W hB⟩
 have hb1:Below (w.heap.size+1) W1 W1.drew:=(Below.refl _ _).drew;refine wp_region_held_drew (S:=(LkP1 vb 3 mt w.heap.size 120 x.1 x.2 (.agg #[.int .i64 ak,.int .u64 au,.int .u64 at_,.int .i64 tr,.bool pd]))) (by kernel_rfl) (hS _ hb1) (fun hS0=>?_);refine wpAnyH_take (i:=0) (v:=?vk0) rfl (by kernel_rfl) (by kernel_rfl) (by kernel_rfl) (fun _ _ _ h=>h) (Or.inl ⟨by kernel_rfl,?yk0⟩) hS0 ?_
 case yk0=>(intro w hSw;obtain⟨q0,q1,q2,q3⟩:=hSw;go_simp;try with_reducible rfl)
 refine wpAnyH_take (i:=1) (v:=?vk1) rfl (by kernel_rfl) (by kernel_rfl) (by kernel_rfl) (fun _ _ _ h=>h) (Or.inl ⟨by kernel_rfl,?yk1⟩) hS0 ?_
 case yk1=>(intro w hSw;obtain⟨q0,q1,q2,q3⟩:=hSw;go_simp;try with_reducible rfl)
 refine wpAnyH_take (i:=2) (v:=?vk2) rfl (by kernel_rfl) (by kernel_rfl) (by kernel_rfl) (fun _ _ _ h=>h) (Or.inl ⟨by kernel_rfl,?yk2⟩) hS0 ?_
 case yk2=>(intro w hSw;obtain⟨q0,q1,q2,q3⟩:=hSw;go_simp;try with_reducible rfl)
 refine wpAnyH_take (i:=3) (v:=?vk3) rfl (by kernel_rfl) (by kernel_rfl) (by kernel_rfl) (fun _ _ _ h=>h) (Or.inl ⟨by kernel_rfl,?yk3⟩) hS0 ?_
 case yk3=>(intro w hSw;obtain⟨q0,q1,q2,q3⟩:=hSw;go_simp;try with_reducible rfl)
 refine wpAnyH_take (i:=4) (v:=?vk4) rfl (by kernel_rfl) (by kernel_rfl) (by kernel_rfl) (fun _ _ _ h=>h) (Or.inl ⟨by kernel_rfl,?yk4⟩) hS0 ?_
 case yk4=>(intro w hSw;obtain⟨q0,q1,q2,q3⟩:=hSw;go_simp;try with_reducible rfl)
 refine wpAnyH_take (i:=5) (v:=?vk5) rfl (by kernel_rfl) (by kernel_rfl) (by kernel_rfl) (fun _ _ _ h=>h) (Or.inl ⟨by kernel_rfl,?yk5⟩) hS0 ?_
 case yk5=>(intro w hSw;obtain⟨q0,q1,q2,q3⟩:=hSw;go_simp;try with_reducible rfl)
 refine wpAnyH_ready (rs:=[6]) (by kernel_rfl) (by simp) ?_;refine AllReadyH.cons rfl (fun K hK=>?_) AllReadyH.nil;go_simp;refine hK.out _ _ (hS _ (hb1.alloc (by simp [hs0]) _)) (fun hS1=>?_);clear hK K;refine wpAnyH_ready (rs:=[7]) (by kernel_rfl) (by simp) ?_;refine AllReadyH.cons rfl (fun K hK=>?_) AllReadyH.nil;go_simp;have hb2:Below (w.heap.size+1) W1 (W1.alloc (.cells #[.int .i64 ak,.int .u64 au,.int .u64 at_,.int .i64 tr,.bool pd] 153)).drew:=((Below.refl _ _).alloc (by omega) _).drew;refine hK.out _ _ (hS _ hb2) (fun hS2=>?_);clear hK K hS0 hS1 hS2;refine wpAnyH_done (by kernel_rfl) ?_ _
 have bT:BoxN (W1.alloc (.cells #[.int .i64 ak,.int .u64 au,.int .u64 at_,.int .i64 tr,.bool pd] 153)).drew (w.heap.size+1) 153 #[.int .i64 ak,.int .u64 au,.int .u64 at_,.int .i64 tr,.bool pd]:=by
  have h:=BoxN.new W1 153 #[.int .i64 ak,.int .u64 au,.int .u64 at_,.int .i64 tr,.bool pd];rw [hs0] at h;exact h
 have bN2:=bN.below hb2 (by omega);have hBf:=hB0.trans (hb2.mono (by omega));clear hS hP hb1 hb2 hB0 bN hs0;generalize (W1.alloc (.cells #[.int .i64 ak,.int .u64 au,.int .u64 at_,.int .i64 tr,.bool pd] 153)).drew=W2 at *;have hV2:=hV.below hBf
 have hQ2:QtP vb (w.heap.size+1) w.heap.size tm at_ x.1 x.2 pd W2.drew:=⟨hV2.v.cell 2 rfl,bT.cell 2 rfl,bT.cell 4 rfl,bN2.cell 0 rfl,bN2.cell 1 rfl⟩
 have hL:=entryLive (w.heap.size+1) pd W2.drew (bT.cell 4 rfl);have hHB:=hasBelow vb mt ml vx tm tn ln tks lks W2.drew (hV2.below (Below.refl _ W2).drew) x.1 x.2;unfold nmV at hHB;generalize (tks.any (fun t=>t.ak==x.1&&(t.au:Int)==x.2)||lks.any (fun t=>t.ak==x.1&&(t.au:Int)==x.2))=hb at *
 go_wp2_with fail
 cases pd
 ·subst hgo
  refine wp_region_held_drew (S:=QtP vb (w.heap.size+1) w.heap.size tm at_ x.1 x.2 false) (by kernel_rfl) hQ2 (fun hS0=>?_);refine wpAnyH_take (i:=0) (v:=?av0) rfl (by kernel_rfl) (by kernel_rfl) (by kernel_rfl) (fun _ _ _ h=>h) (Or.inl ⟨by kernel_rfl,?ay0⟩) hS0 ?_
  case ay0=>(intro w hSw;obtain⟨q0,q1,q2,q3,q4⟩:=hSw;go_simp;try with_reducible rfl)
  refine wpAnyH_ready (rs:=[1]) (by kernel_rfl) (by simp) ?_;refine AllReadyH.cons rfl (fun K hK=>?_) AllReadyH.nil;go_simp;refine hL.mono ?_;rintro e w5 ⟨rfl,rfl⟩;refine hK.out _ _ hQ2 (fun hS1=>?_);clear hK K;refine wpAnyH_take (i:=2) (v:=?av2) rfl (by kernel_rfl) (by kernel_rfl) (by kernel_rfl) (fun _ _ _ h=>h) (Or.inl ⟨by kernel_rfl,?ay2⟩) hS1 ?_
  case ay2=>(intro w hSw;obtain⟨q0,q1,q2,q3,q4⟩:=hSw;go_simp;try with_reducible rfl)
  refine wpAnyH_take (i:=3) (v:=?av3) rfl (by kernel_rfl) (by kernel_rfl) (by kernel_rfl) (fun _ _ _ h=>h) (Or.inl ⟨by kernel_rfl,?ay3⟩) hS1 ?_
  case ay3=>(intro w hSw;obtain⟨q0,q1,q2,q3,q4⟩:=hSw;go_simp;try with_reducible rfl)
  refine wpAnyH_take (i:=4) (v:=undef) rfl (by kernel_rfl) (by kernel_rfl) (by kernel_rfl) (fun _ _ _ h=>h) (Or.inr ⟨by kernel_rfl,rfl⟩) hS1 ?_;refine wpAnyH_take (i:=5) (v:=undef) rfl (by kernel_rfl) (by kernel_rfl) (by kernel_rfl) (fun _ _ _ h=>h) (Or.inr ⟨by kernel_rfl,rfl⟩) hS1 ?_;refine wpAnyH_take (i:=6) (v:=undef) rfl (by kernel_rfl) (by kernel_rfl) (by kernel_rfl) (fun _ _ _ h=>h) (Or.inr ⟨by kernel_rfl,rfl⟩) hS1 ?_;refine wpAnyH_take (i:=7) (v:=undef) rfl (by kernel_rfl) (by kernel_rfl) (by kernel_rfl) (fun _ _ _ h=>h) (Or.inr ⟨by kernel_rfl,rfl⟩) hS1 ?_;refine wpAnyH_take (i:=8) (v:=undef) rfl (by kernel_rfl) (by kernel_rfl) (by kernel_rfl) (fun _ _ _ h=>h) (Or.inr ⟨by kernel_rfl,rfl⟩) hS1 ?_;refine wpAnyH_take (i:=9) (v:=undef) rfl (by kernel_rfl) (by kernel_rfl) (by kernel_rfl) (fun _ _ _ h=>h) (Or.inr ⟨by kernel_rfl,rfl⟩) hS1 ?_;refine wpAnyH_take (i:=10) (v:=undef) rfl (by kernel_rfl) (by kernel_rfl) (by kernel_rfl) (fun _ _ _ h=>h) (Or.inr ⟨by kernel_rfl,rfl⟩) hS1 ?_;refine wpAnyH_take (i:=11) (v:=undef) rfl (by kernel_rfl) (by kernel_rfl) (by kernel_rfl) (fun _ _ _ h=>h) (Or.inr ⟨by kernel_rfl,rfl⟩) hS1 ?_;refine wpAnyH_take (i:=12) (v:=?av12) rfl (by kernel_rfl) (by kernel_rfl) (by kernel_rfl) (fun _ _ _ h=>h) (Or.inl ⟨by kernel_rfl,?ay12⟩) hS1 ?_
  case ay12=>(intro w hSw;obtain⟨q0,q1,q2,q3,q4⟩:=hSw;go_simp;try with_reducible rfl)
  refine wpAnyH_take (i:=13) (v:=?av13) rfl (by kernel_rfl) (by kernel_rfl) (by kernel_rfl) (fun _ _ _ h=>h) (Or.inl ⟨by kernel_rfl,?ay13⟩) hS1 ?_
  case ay13=>(intro w hSw;obtain⟨q0,q1,q2,q3,q4⟩:=hSw;go_simp;try with_reducible rfl)
  refine wpAnyH_take (i:=14) (v:=undef) rfl (by kernel_rfl) (by kernel_rfl) (by kernel_rfl) (fun _ _ _ h=>h) (Or.inr ⟨by kernel_rfl,rfl⟩) hS1 ?_;refine wpAnyH_take (i:=15) (v:=undef) rfl (by kernel_rfl) (by kernel_rfl) (by kernel_rfl) (fun _ _ _ h=>h) (Or.inr ⟨by kernel_rfl,rfl⟩) hS1 ?_;refine wpAnyH_take (i:=16) (v:=undef) rfl (by kernel_rfl) (by kernel_rfl) (by kernel_rfl) (fun _ _ _ h=>h) (Or.inr ⟨by kernel_rfl,rfl⟩) hS1 ?_;refine wpAnyH_take (i:=17) (v:=undef) rfl (by kernel_rfl) (by kernel_rfl) (by kernel_rfl) (fun _ _ _ h=>h) (Or.inr ⟨by kernel_rfl,rfl⟩) hS1 ?_;refine wpAnyH_take (i:=18) (v:=?av18) rfl (by kernel_rfl) (by kernel_rfl) (by kernel_rfl) (fun _ _ _ h=>h) (Or.inl ⟨by kernel_rfl,?ay18⟩) hS1 ?_
  case ay18=>(intro w hSw;obtain⟨q0,q1,q2,q3,q4⟩:=hSw;go_simp;try with_reducible rfl)
  refine wpAnyH_done (by kernel_rfl) ?_ _;go_simp;go_wp2
  go_end0
  first
   | exact⟨rfl,fun _=>hBf.drew,fun h=>by simp at h⟩
   | exact⟨rfl,hBf.drew⟩
 by_cases hat:at_≤tm
 ·cases hb
  ·have hgo2:go=true:=by simp [hgo,hat]
   clear hgo;subst hgo2;refine wp_region_held_drew (S:=QtP vb (w.heap.size+1) w.heap.size tm at_ x.1 x.2 true) (by kernel_rfl) hQ2 (fun hS0=>?_);refine wpAnyH_take (i:=0) (v:=?cv0) rfl (by kernel_rfl) (by kernel_rfl) (by kernel_rfl) (fun _ _ _ h=>h) (Or.inl ⟨by kernel_rfl,?cy0⟩) hS0 ?_
   case cy0=>(intro w hSw;obtain⟨q0,q1,q2,q3,q4⟩:=hSw;go_simp;try with_reducible rfl)
   refine wpAnyH_ready (rs:=[1]) (by kernel_rfl) (by simp) ?_;refine AllReadyH.cons rfl (fun K hK=>?_) AllReadyH.nil;go_simp;refine hL.mono ?_;rintro e w5 ⟨rfl,rfl⟩;refine hK.out _ _ hQ2 (fun hS1=>?_);clear hK K;refine wpAnyH_take (i:=2) (v:=?cv2) rfl (by kernel_rfl) (by kernel_rfl) (by kernel_rfl) (fun _ _ _ h=>h) (Or.inl ⟨by kernel_rfl,?cy2⟩) hS1 ?_
   case cy2=>(intro w hSw;obtain⟨q0,q1,q2,q3,q4⟩:=hSw;go_simp;try with_reducible rfl)
   refine wpAnyH_take (i:=3) (v:=?cv3) rfl (by kernel_rfl) (by kernel_rfl) (by kernel_rfl) (fun _ _ _ h=>h) (Or.inl ⟨by kernel_rfl,?cy3⟩) hS1 ?_
   case cy3=>(intro w hSw;obtain⟨q0,q1,q2,q3,q4⟩:=hSw;go_simp;try with_reducible rfl)
   refine wpAnyH_take (i:=4) (v:=?cv4) rfl (by kernel_rfl) (by kernel_rfl) (by kernel_rfl) (fun _ _ _ h=>h) (Or.inl ⟨by kernel_rfl,?cy4⟩) hS1 ?_
   case cy4=>(intro w hSw;obtain⟨q0,q1,q2,q3,q4⟩:=hSw;go_simp;try with_reducible rfl)
   refine wpAnyH_take (i:=5) (v:=?cv5) rfl (by kernel_rfl) (by kernel_rfl) (by kernel_rfl) (fun _ _ _ h=>h) (Or.inl ⟨by kernel_rfl,?cy5⟩) hS1 ?_
   case cy5=>(intro w hSw;obtain⟨q0,q1,q2,q3,q4⟩:=hSw;go_simp;try with_reducible rfl)
   refine wpAnyH_take (i:=6) (v:=?cv6) rfl (by kernel_rfl) (by kernel_rfl) (by kernel_rfl) (fun _ _ _ h=>h) (Or.inl ⟨by kernel_rfl,?cy6⟩) hS1 ?_
   case cy6=>(intro w hSw;obtain⟨q0,q1,q2,q3,q4⟩:=hSw;go_simp;try with_reducible rfl)
   refine wpAnyH_take (i:=7) (v:=?cv7) rfl (by kernel_rfl) (by kernel_rfl) (by kernel_rfl) (fun _ _ _ h=>h) (Or.inl ⟨by kernel_rfl,?cy7⟩) hS1 ?_
   case cy7=>(intro w hSw;obtain⟨q0,q1,q2,q3,q4⟩:=hSw;go_simp;try with_reducible rfl)
   refine wpAnyH_take (i:=8) (v:=?cv8) rfl (by kernel_rfl) (by kernel_rfl) (by kernel_rfl) (fun _ _ _ h=>h) (Or.inl ⟨by kernel_rfl,?cy8⟩) hS1 ?_
   case cy8=>(intro w hSw;obtain⟨q0,q1,q2,q3,q4⟩:=hSw;go_simp;try with_reducible rfl)
   refine wpAnyH_take (i:=9) (v:=?cv9) rfl (by kernel_rfl) (by kernel_rfl) (by kernel_rfl) (fun _ _ _ h=>h) (Or.inl ⟨by kernel_rfl,?cy9⟩) hS1 ?_
   case cy9=>(intro w hSw;obtain⟨q0,q1,q2,q3,q4⟩:=hSw;go_simp;try with_reducible rfl)
   refine wpAnyH_take (i:=10) (v:=?cv10) rfl (by kernel_rfl) (by kernel_rfl) (by kernel_rfl) (fun _ _ _ h=>h) (Or.inl ⟨by kernel_rfl,?cy10⟩) hS1 ?_
   case cy10=>(intro w hSw;obtain⟨q0,q1,q2,q3,q4⟩:=hSw;go_simp;try with_reducible rfl)
   refine wpAnyH_take (i:=11) (v:=?cv11) rfl (by kernel_rfl) (by kernel_rfl) (by kernel_rfl) (fun _ _ _ h=>h) (Or.inl ⟨by kernel_rfl,?cy11⟩) hS1 ?_
   case cy11=>(intro w hSw;obtain⟨q0,q1,q2,q3,q4⟩:=hSw;go_simp;try with_reducible rfl)
   refine wpAnyH_take (i:=12) (v:=?cv12) rfl (by kernel_rfl) (by kernel_rfl) (by kernel_rfl) (fun _ _ _ h=>h) (Or.inl ⟨by kernel_rfl,?cy12⟩) hS1 ?_
   case cy12=>(intro w hSw;obtain⟨q0,q1,q2,q3,q4⟩:=hSw;go_simp;try with_reducible rfl)
   refine wpAnyH_take (i:=13) (v:=?cv13) rfl (by kernel_rfl) (by kernel_rfl) (by kernel_rfl) (fun _ _ _ h=>h) (Or.inl ⟨by kernel_rfl,?cy13⟩) hS1 ?_
   case cy13=>(intro w hSw;obtain⟨q0,q1,q2,q3,q4⟩:=hSw;go_simp;try with_reducible rfl)
   refine wpAnyH_take (i:=14) (v:=?cv14) rfl (by kernel_rfl) (by kernel_rfl) (by kernel_rfl) (fun _ _ _ h=>h) (Or.inl ⟨by kernel_rfl,?cy14⟩) hS1 ?_
   case cy14=>(intro w hSw;obtain⟨q0,q1,q2,q3,q4⟩:=hSw;go_simp;try with_reducible rfl)
   refine wpAnyH_take (i:=15) (v:=?cv15) rfl (by kernel_rfl) (by kernel_rfl) (by kernel_rfl) (fun _ _ _ h=>h) (Or.inl ⟨by kernel_rfl,?cy15⟩) hS1 ?_
   case cy15=>(intro w hSw;obtain⟨q0,q1,q2,q3,q4⟩:=hSw;go_simp;try with_reducible rfl)
   refine wpAnyH_ready (rs:=[16]) (by kernel_rfl) (by simp) ?_;refine AllReadyH.cons rfl (fun K hK=>?_) AllReadyH.nil;go_simp;refine hHB.mono ?_;rintro e w6 ⟨rfl,hb6⟩;have hQ6:=QtP.below hQ2 hb6;refine hK.out _ _ hQ6 (fun hS2=>?_);clear hK K;refine wpAnyH_take (i:=17) (v:=?cv17) rfl (by kernel_rfl) (by kernel_rfl) (by kernel_rfl) (fun _ _ _ h=>h) (Or.inl ⟨by kernel_rfl,?cy17⟩) hS2 ?_
   case cy17=>(intro w hSw;obtain⟨q0,q1,q2,q3,q4⟩:=hSw;go_simp;try with_reducible rfl)
   refine wpAnyH_take (i:=18) (v:=?cv18) rfl (by kernel_rfl) (by kernel_rfl) (by kernel_rfl) (fun _ _ _ h=>h) (Or.inl ⟨by kernel_rfl,?cy18⟩) hS2 ?_
   case cy18=>(intro w hSw;obtain⟨q0,q1,q2,q3,q4⟩:=hSw;go_simp;try with_reducible rfl)
   refine wpAnyH_done (by kernel_rfl) ?_ _;go_simp;have hBf6:Below w.heap.size w w6:=hBf.drew.trans (hb6.mono hBf.drew.size);clear hS0 hS1 hS2 hQ2 hb6 hHB hL
   have hPu:=fun W (hb:Below w.heap.size w W)=>qPush B vb vx.due q.length q (vaultC vx tm mt ml tn ln) ⟨at_,x.1,x.2⟩ W (hV.below hb).v rfl (ownsRow_below hrow hb) hH (Nat.le_trans hB hb.size) hn
   simp only [TurnD.cells] at hPu;have hB6d:=hBf6.drew;have hQ6d:QtP vb (w.heap.size+1) w.heap.size tm at_ x.1 x.2 true w6.drew:=hQ6;have hPu6:=hPu w6.drew hB6d;have l1:w.heap.size+1<w6.drew.heap.size:=World.block_lt_of_cell? _ _ hQ6d.2.1;have l0:w.heap.size<w6.drew.heap.size:=World.block_lt_of_cell? _ _ hQ6d.2.2.2.1;have lv:=hV.v.lt
   have hdl:∀ b∈vx.due.ownBlock.toList,b<w.heap.size:=fun b hb=>(hrow.lt b (by simpa using hb)).2
   have hn1:w.heap.size+1∉vb :: vx.due.ownBlock.toList:=fun hm=>by
    rcases List.mem_cons.1 hm with e | hm
    ·omega
    ·have:=hdl _ hm;omega
   have hn0:w.heap.size∉vb :: vx.due.ownBlock.toList:=fun hm=>by
    rcases List.mem_cons.1 hm with e | hm
    ·omega
    ·have:=hdl _ hm;omega
   go_wp2_with fail
   go_region_held3 (QtP vb (w.heap.size+1) w.heap.size tm at_ x.1 x.2 true) (first
    | with_reducible exact hQ6d
    | with_reducible exact hQ7
    | with_reducible assumption) (first
    | (go_at_call 131;refine hPu6.mono ?_;rintro e w7 ⟨rfl,g,cap,ys,hqv,hhp,hpm,hwg,hsp⟩;have hQ7:QtP vb (w.heap.size+1) w.heap.size tm at_ x.1 x.2 true w7:=⟨hqv.v.cell 2 rfl,(cell_of_block (hsp.block _ l1 hn1) _).1.trans hQ6d.2.1,(cell_of_block (hsp.block _ l1 hn1) _).1.trans hQ6d.2.2.1,(cell_of_block (hsp.block _ l0 hn0) _).1.trans hQ6d.2.2.2.1,(cell_of_block (hsp.block _ l0 hn0) _).1.trans hQ6d.2.2.2.2⟩))
   all_goals
    go_wp2
    go_end0
    refine⟨rfl,g,cap,ys,hqv,hhp,hpm,?_,(Spares.of_below hB6d).trans hsp⟩
    rcases hwg with h | h
    ·exact .inl h
    ·exact .inr (Nat.le_trans hB6d.size h)
  ·have hgo2:go=false:=by simp [hgo]
   clear hgo;subst hgo2;refine wp_region_held_drew (S:=QtP vb (w.heap.size+1) w.heap.size tm at_ x.1 x.2 true) (by kernel_rfl) hQ2 (fun hS0=>?_);refine wpAnyH_take (i:=0) (v:=?dv0) rfl (by kernel_rfl) (by kernel_rfl) (by kernel_rfl) (fun _ _ _ h=>h) (Or.inl ⟨by kernel_rfl,?dy0⟩) hS0 ?_
   case dy0=>(intro w hSw;obtain⟨q0,q1,q2,q3,q4⟩:=hSw;go_simp;try with_reducible rfl)
   refine wpAnyH_ready (rs:=[1]) (by kernel_rfl) (by simp) ?_;refine AllReadyH.cons rfl (fun K hK=>?_) AllReadyH.nil;go_simp;refine hL.mono ?_;rintro e w5 ⟨rfl,rfl⟩;refine hK.out _ _ hQ2 (fun hS1=>?_);clear hK K;refine wpAnyH_take (i:=2) (v:=?dv2) rfl (by kernel_rfl) (by kernel_rfl) (by kernel_rfl) (fun _ _ _ h=>h) (Or.inl ⟨by kernel_rfl,?dy2⟩) hS1 ?_
   case dy2=>(intro w hSw;obtain⟨q0,q1,q2,q3,q4⟩:=hSw;go_simp;try with_reducible rfl)
   refine wpAnyH_take (i:=3) (v:=?dv3) rfl (by kernel_rfl) (by kernel_rfl) (by kernel_rfl) (fun _ _ _ h=>h) (Or.inl ⟨by kernel_rfl,?dy3⟩) hS1 ?_
   case dy3=>(intro w hSw;obtain⟨q0,q1,q2,q3,q4⟩:=hSw;go_simp;try with_reducible rfl)
   refine wpAnyH_take (i:=4) (v:=?dv4) rfl (by kernel_rfl) (by kernel_rfl) (by kernel_rfl) (fun _ _ _ h=>h) (Or.inl ⟨by kernel_rfl,?dy4⟩) hS1 ?_
   case dy4=>(intro w hSw;obtain⟨q0,q1,q2,q3,q4⟩:=hSw;go_simp;try with_reducible rfl)
   refine wpAnyH_take (i:=5) (v:=?dv5) rfl (by kernel_rfl) (by kernel_rfl) (by kernel_rfl) (fun _ _ _ h=>h) (Or.inl ⟨by kernel_rfl,?dy5⟩) hS1 ?_
   case dy5=>(intro w hSw;obtain⟨q0,q1,q2,q3,q4⟩:=hSw;go_simp;try with_reducible rfl)
   refine wpAnyH_take (i:=6) (v:=?dv6) rfl (by kernel_rfl) (by kernel_rfl) (by kernel_rfl) (fun _ _ _ h=>h) (Or.inl ⟨by kernel_rfl,?dy6⟩) hS1 ?_
   case dy6=>(intro w hSw;obtain⟨q0,q1,q2,q3,q4⟩:=hSw;go_simp;try with_reducible rfl)
   refine wpAnyH_take (i:=7) (v:=?dv7) rfl (by kernel_rfl) (by kernel_rfl) (by kernel_rfl) (fun _ _ _ h=>h) (Or.inl ⟨by kernel_rfl,?dy7⟩) hS1 ?_
   case dy7=>(intro w hSw;obtain⟨q0,q1,q2,q3,q4⟩:=hSw;go_simp;try with_reducible rfl)
   refine wpAnyH_take (i:=8) (v:=?dv8) rfl (by kernel_rfl) (by kernel_rfl) (by kernel_rfl) (fun _ _ _ h=>h) (Or.inl ⟨by kernel_rfl,?dy8⟩) hS1 ?_
   case dy8=>(intro w hSw;obtain⟨q0,q1,q2,q3,q4⟩:=hSw;go_simp;try with_reducible rfl)
   refine wpAnyH_take (i:=9) (v:=?dv9) rfl (by kernel_rfl) (by kernel_rfl) (by kernel_rfl) (fun _ _ _ h=>h) (Or.inl ⟨by kernel_rfl,?dy9⟩) hS1 ?_
   case dy9=>(intro w hSw;obtain⟨q0,q1,q2,q3,q4⟩:=hSw;go_simp;try with_reducible rfl)
   refine wpAnyH_take (i:=10) (v:=?dv10) rfl (by kernel_rfl) (by kernel_rfl) (by kernel_rfl) (fun _ _ _ h=>h) (Or.inl ⟨by kernel_rfl,?dy10⟩) hS1 ?_
   case dy10=>(intro w hSw;obtain⟨q0,q1,q2,q3,q4⟩:=hSw;go_simp;try with_reducible rfl)
   refine wpAnyH_take (i:=11) (v:=?dv11) rfl (by kernel_rfl) (by kernel_rfl) (by kernel_rfl) (fun _ _ _ h=>h) (Or.inl ⟨by kernel_rfl,?dy11⟩) hS1 ?_
   case dy11=>(intro w hSw;obtain⟨q0,q1,q2,q3,q4⟩:=hSw;go_simp;try with_reducible rfl)
   refine wpAnyH_take (i:=12) (v:=?dv12) rfl (by kernel_rfl) (by kernel_rfl) (by kernel_rfl) (fun _ _ _ h=>h) (Or.inl ⟨by kernel_rfl,?dy12⟩) hS1 ?_
   case dy12=>(intro w hSw;obtain⟨q0,q1,q2,q3,q4⟩:=hSw;go_simp;try with_reducible rfl)
   refine wpAnyH_take (i:=13) (v:=?dv13) rfl (by kernel_rfl) (by kernel_rfl) (by kernel_rfl) (fun _ _ _ h=>h) (Or.inl ⟨by kernel_rfl,?dy13⟩) hS1 ?_
   case dy13=>(intro w hSw;obtain⟨q0,q1,q2,q3,q4⟩:=hSw;go_simp;try with_reducible rfl)
   refine wpAnyH_take (i:=14) (v:=?dv14) rfl (by kernel_rfl) (by kernel_rfl) (by kernel_rfl) (fun _ _ _ h=>h) (Or.inl ⟨by kernel_rfl,?dy14⟩) hS1 ?_
   case dy14=>(intro w hSw;obtain⟨q0,q1,q2,q3,q4⟩:=hSw;go_simp;try with_reducible rfl)
   refine wpAnyH_take (i:=15) (v:=?dv15) rfl (by kernel_rfl) (by kernel_rfl) (by kernel_rfl) (fun _ _ _ h=>h) (Or.inl ⟨by kernel_rfl,?dy15⟩) hS1 ?_
   case dy15=>(intro w hSw;obtain⟨q0,q1,q2,q3,q4⟩:=hSw;go_simp;try with_reducible rfl)
   refine wpAnyH_ready (rs:=[16]) (by kernel_rfl) (by simp) ?_;refine AllReadyH.cons rfl (fun K hK=>?_) AllReadyH.nil;go_simp;refine hHB.mono ?_;rintro e w6 ⟨rfl,hb6⟩;have hQ6:=QtP.below hQ2 hb6;refine hK.out _ _ hQ6 (fun hS2=>?_);clear hK K;refine wpAnyH_take (i:=17) (v:=?dv17) rfl (by kernel_rfl) (by kernel_rfl) (by kernel_rfl) (fun _ _ _ h=>h) (Or.inl ⟨by kernel_rfl,?dy17⟩) hS2 ?_
   case dy17=>(intro w hSw;obtain⟨q0,q1,q2,q3,q4⟩:=hSw;go_simp;try with_reducible rfl)
   refine wpAnyH_take (i:=18) (v:=?dv18) rfl (by kernel_rfl) (by kernel_rfl) (by kernel_rfl) (fun _ _ _ h=>h) (Or.inl ⟨by kernel_rfl,?dy18⟩) hS2 ?_
   case dy18=>(intro w hSw;obtain⟨q0,q1,q2,q3,q4⟩:=hSw;go_simp;try with_reducible rfl)
   refine wpAnyH_done (by kernel_rfl) ?_ _;go_simp;have hBf6:Below w.heap.size w w6:=hBf.drew.trans (hb6.mono hBf.drew.size);clear hS0 hS1 hS2 hQ2 hb6 hHB hL;go_wp2
   go_end0
   first
    | exact⟨rfl,fun _=>hBf6,fun h=>by simp at h⟩
    | exact⟨rfl,hBf6⟩
 ·have hgo2:go=false:=by simp [hgo,hat]
  clear hgo;subst hgo2;refine wp_region_held_drew (S:=QtP vb (w.heap.size+1) w.heap.size tm at_ x.1 x.2 true) (by kernel_rfl) hQ2 (fun hS0=>?_);refine wpAnyH_take (i:=0) (v:=?bv0) rfl (by kernel_rfl) (by kernel_rfl) (by kernel_rfl) (fun _ _ _ h=>h) (Or.inl ⟨by kernel_rfl,?by0⟩) hS0 ?_
  case by0=>(intro w hSw;obtain⟨q0,q1,q2,q3,q4⟩:=hSw;go_simp;try with_reducible rfl)
  refine wpAnyH_ready (rs:=[1]) (by kernel_rfl) (by simp) ?_;refine AllReadyH.cons rfl (fun K hK=>?_) AllReadyH.nil;go_simp;refine hL.mono ?_;rintro e w5 ⟨rfl,rfl⟩;refine hK.out _ _ hQ2 (fun hS1=>?_);clear hK K;refine wpAnyH_take (i:=2) (v:=?bv2) rfl (by kernel_rfl) (by kernel_rfl) (by kernel_rfl) (fun _ _ _ h=>h) (Or.inl ⟨by kernel_rfl,?by2⟩) hS1 ?_
  case by2=>(intro w hSw;obtain⟨q0,q1,q2,q3,q4⟩:=hSw;go_simp;try with_reducible rfl)
  refine wpAnyH_take (i:=3) (v:=?bv3) rfl (by kernel_rfl) (by kernel_rfl) (by kernel_rfl) (fun _ _ _ h=>h) (Or.inl ⟨by kernel_rfl,?by3⟩) hS1 ?_
  case by3=>(intro w hSw;obtain⟨q0,q1,q2,q3,q4⟩:=hSw;go_simp;try with_reducible rfl)
  refine wpAnyH_take (i:=4) (v:=?bv4) rfl (by kernel_rfl) (by kernel_rfl) (by kernel_rfl) (fun _ _ _ h=>h) (Or.inl ⟨by kernel_rfl,?by4⟩) hS1 ?_
  case by4=>(intro w hSw;obtain⟨q0,q1,q2,q3,q4⟩:=hSw;go_simp;try with_reducible rfl)
  refine wpAnyH_take (i:=5) (v:=?bv5) rfl (by kernel_rfl) (by kernel_rfl) (by kernel_rfl) (fun _ _ _ h=>h) (Or.inl ⟨by kernel_rfl,?by5⟩) hS1 ?_
  case by5=>(intro w hSw;obtain⟨q0,q1,q2,q3,q4⟩:=hSw;go_simp;try with_reducible rfl)
  refine wpAnyH_take (i:=6) (v:=?bv6) rfl (by kernel_rfl) (by kernel_rfl) (by kernel_rfl) (fun _ _ _ h=>h) (Or.inl ⟨by kernel_rfl,?by6⟩) hS1 ?_
  case by6=>(intro w hSw;obtain⟨q0,q1,q2,q3,q4⟩:=hSw;go_simp;try with_reducible rfl)
  refine wpAnyH_take (i:=7) (v:=?bv7) rfl (by kernel_rfl) (by kernel_rfl) (by kernel_rfl) (fun _ _ _ h=>h) (Or.inl ⟨by kernel_rfl,?by7⟩) hS1 ?_
  case by7=>(intro w hSw;obtain⟨q0,q1,q2,q3,q4⟩:=hSw;go_simp;try with_reducible rfl)
  refine wpAnyH_take (i:=8) (v:=?bv8) rfl (by kernel_rfl) (by kernel_rfl) (by kernel_rfl) (fun _ _ _ h=>h) (Or.inl ⟨by kernel_rfl,?by8⟩) hS1 ?_
  case by8=>(intro w hSw;obtain⟨q0,q1,q2,q3,q4⟩:=hSw;go_simp;try with_reducible rfl)
  refine wpAnyH_take (i:=9) (v:=?bv9) rfl (by kernel_rfl) (by kernel_rfl) (by kernel_rfl) (fun _ _ _ h=>h) (Or.inl ⟨by kernel_rfl,?by9⟩) hS1 ?_
  case by9=>(intro w hSw;obtain⟨q0,q1,q2,q3,q4⟩:=hSw;go_simp;try with_reducible rfl)
  refine wpAnyH_take (i:=10) (v:=?bv10) rfl (by kernel_rfl) (by kernel_rfl) (by kernel_rfl) (fun _ _ _ h=>h) (Or.inl ⟨by kernel_rfl,?by10⟩) hS1 ?_
  case by10=>(intro w hSw;obtain⟨q0,q1,q2,q3,q4⟩:=hSw;go_simp;try with_reducible rfl)
  refine wpAnyH_take (i:=11) (v:=?bv11) rfl (by kernel_rfl) (by kernel_rfl) (by kernel_rfl) (fun _ _ _ h=>h) (Or.inl ⟨by kernel_rfl,?by11⟩) hS1 ?_
  case by11=>(intro w hSw;obtain⟨q0,q1,q2,q3,q4⟩:=hSw;go_simp;try with_reducible rfl)
  refine wpAnyH_take (i:=12) (v:=?bv12) rfl (by kernel_rfl) (by kernel_rfl) (by kernel_rfl) (fun _ _ _ h=>h) (Or.inl ⟨by kernel_rfl,?by12⟩) hS1 ?_
  case by12=>(intro w hSw;obtain⟨q0,q1,q2,q3,q4⟩:=hSw;go_simp;try with_reducible rfl)
  refine wpAnyH_take (i:=13) (v:=?bv13) rfl (by kernel_rfl) (by kernel_rfl) (by kernel_rfl) (fun _ _ _ h=>h) (Or.inl ⟨by kernel_rfl,?by13⟩) hS1 ?_
  case by13=>(intro w hSw;obtain⟨q0,q1,q2,q3,q4⟩:=hSw;go_simp;try with_reducible rfl)
  refine wpAnyH_take (i:=14) (v:=undef) rfl (by kernel_rfl) (by kernel_rfl) (by kernel_rfl) (fun _ _ _ h=>h) (Or.inr ⟨by kernel_rfl,rfl⟩) hS1 ?_;refine wpAnyH_take (i:=15) (v:=undef) rfl (by kernel_rfl) (by kernel_rfl) (by kernel_rfl) (fun _ _ _ h=>h) (Or.inr ⟨by kernel_rfl,rfl⟩) hS1 ?_;refine wpAnyH_take (i:=16) (v:=undef) rfl (by kernel_rfl) (by kernel_rfl) (by kernel_rfl) (fun _ _ _ h=>h) (Or.inr ⟨by kernel_rfl,rfl⟩) hS1 ?_;refine wpAnyH_take (i:=17) (v:=undef) rfl (by kernel_rfl) (by kernel_rfl) (by kernel_rfl) (fun _ _ _ h=>h) (Or.inr ⟨by kernel_rfl,rfl⟩) hS1 ?_;refine wpAnyH_take (i:=18) (v:=?bv18) rfl (by kernel_rfl) (by kernel_rfl) (by kernel_rfl) (fun _ _ _ h=>h) (Or.inl ⟨by kernel_rfl,?by18⟩) hS1 ?_
  case by18=>(intro w hSw;obtain⟨q0,q1,q2,q3,q4⟩:=hSw;go_simp;try with_reducible rfl)
  refine wpAnyH_done (by kernel_rfl) ?_ _;go_simp;go_wp2
  go_end0
  first
   | exact⟨rfl,fun _=>hBf.drew,fun h=>by simp at h⟩
   | exact⟨rfl,hBf.drew⟩
end Go.Proofs
