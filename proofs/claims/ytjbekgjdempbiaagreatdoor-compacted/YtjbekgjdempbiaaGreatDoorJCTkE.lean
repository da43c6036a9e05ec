import Derived.Test.YtjbekgjdempbiaaGreatDoorJCTkD
set_option maxRecDepth 100000
set_option maxHeartbeats 8000000
namespace Go.Proofs
open Go.RowKit Go.Sort Go.Lib Go.Shelf Go.Maps
theorem Xap {P:Program} {t:TypeId} (T:Xp P t) {ks:List ((Int × Int) × Value)} (hk:Yz ks) {x:Int × Int} {kl:Lit} {c:Value} {y:DataW Value × List MemPlace} (hkey:keyOf P t (nmV x)=some kl) (hv:X8 c=some y) (hat:∀ zd,(mapD ks).atKey kl zd=y.1):Zt x/\kl=nmL x/\(x,c)∈ks:=by
 obtain⟨x',hw,ex,rfl⟩:=T.inv hkey
 obtain rfl:x=x':=by
  simp only [nmV,Value.agg.injEq] at ex;simp at ex;exact Prod.ext ex.1 ex.2
 refine⟨hw,rfl,?_⟩;have hh:=has_true_of_atKey hat
 cases hg:Z8 ks x with
 | none=>exact absurd ((T.Xf6 hk hw hg).symm.trans hh) (by decide)
 | some pv =>
  have h1:=T.Jm hw (.held c) ks hk;rw [hg] at h1;have h2:DataW.held pv=y.1:=h1.symm.trans (hat (.held c))
  have h3:X8 c=some (.held pv,y.2):=by rw [hv,h2]
  rw [<- Zq h3] at hg;exact Xc1 hg
theorem Xa9 {α:Type} {f:α->Nat} {l:List α} (h:l.Pairwise (fun a b=>f a<f b)) {a b:α} (ha:a∈l) (hb:b∈l) (e:f a=f b):a=b:=by
 induction l with
 | nil=>cases ha
 | cons c l ih =>
  obtain⟨h1,h2⟩:=List.pairwise_cons.1 h
  rcases List.mem_cons.1 ha with e1 | h3
  ·rcases List.mem_cons.1 hb with e2 | h4
   ·exact e1.trans e2.symm
   have:=h1 b h4;rw [e1] at e;omega
  rcases List.mem_cons.1 hb with e2 | h4
  ·have:=h1 a h3;rw [e2] at e;omega
  exact ih h2 h3 h4
theorem Tryz.Xki (vb mt ml:Nat) (vx:VX) (tm tn ln:Int) (tks:List Xe) (lks:List Xd) (w:World) (hV:X0 w vb mt ml vx tm tn ln tks lks) (k u:Int) :
  Calls prog 167 #[.pointer (some ⟨vb,0,none⟩),nmV (k,u)] w fun e w'=>e=.returned (.bool (tks.any (fun t=>t.ak==k&&(t.au:Int)==u)||lks.any (fun t=>t.ak==k&&(t.au:Int)==u)))/\Below w.heap.size w w':=by
 obtain⟨rs,hrs⟩:∃ rs,(tks.any (fun t=>t.ak==k&&(t.au:Int)==u)||lks.any (fun t=>t.ak==k&&(t.au:Int)==u))=rs:=⟨_,rfl⟩
 rw [hrs];have HR:=Xb hrs;clear hrs;have hB0:Below w.heap.size w (w.alloc (.cells #[.int .i64 k,.int .u64 u] 114)):=(Below.refl _ w).alloc (Nat.le_refl _) _;have bN:=BoxN.new w 114 #[.int .i64 k,.int .u64 u];have hV1:=hV.below hB0
 have hs0:(w.alloc (.cells #[.int .i64 k,.int .u64 u] 114)).heap.size=w.heap.size+1:=by simp
 have lv:=hV.v.lt;unfold nmV;go_enter func167,ntmps167;obtain⟨kT,-⟩:=hV1.ok.ksT;obtain⟨nT,hnT,mT⟩:=hV1.held.mapT;have v3:=hV1.v.cell 3 (v:=.map (some mt)) rfl
 go_wp2_with (first
  | (at_range;refine wpList_range_own _ rfl _ 120 rfl 114 153 Yq underlying120 _ mt nT _ rfl mT ?_;intro w0 hrg0 hg0 hs0')
  | go_in)
 have hB1:Below w.heap.size w w0:=hB0.trans ⟨hg0.os,hg0.tape,hg0.output,by have:=hg0.size;omega,fun j hj=>hg0.block j (by omega) (by simp)⟩;have bN1:=bN.kept hg0 (by simp);rw [hs0] at hrg0 hs0';rw [hs0];clear v3 mT hV1 hs0 hg0 hB0 bN
 go_frame
 go_loopw [4] (fun v wr=>∃(left:Lit->Bool) (cnt:Nat) (ss:List (Int × Int)),wr.ranges prog 114 X8 mt (w.heap.size+1) nT (mapD (tks.map Xe.key).reverse) left cnt/\Jj (tks.map Xe.key).reverse left ss/\(∀ t∈tks,(1,(t.n:Int))∈ss->(t.ak==k&&(t.au:Int)==u)=false)/\Below w.heap.size w wr/\BoxN wr w.heap.size 114 #[.int .i64 k,.int .u64 u]/\v=.bool false)
  (fun _ wr=>wr.rangeLeft mt (w.heap.size+1))
 case atStart =>
  exact⟨_,_,[],hrg0,Jj.start Xo kT,by simp,hB1,bN1,rfl⟩
 case round =>
  clear hrg0 hB1 bN1 hs0';obtain⟨left,cnt,ss,hrg,hC,hno,hB,bNr,rfl⟩:=hrel
  go_wp2_with (first
   | (at_next;refine wpList_next_ranges _ rfl _ rfl 114 Yq X8 nmV (fun v:Value=>v) (fun key kl hk=>by obtain⟨x,_,hx,_⟩:=Xo.inv hk;exact⟨x,hx⟩) (fun v _ _=>⟨v,rfl⟩) mt (w.heap.size+1) nT _ _ _ rfl hrg ?_ ?_)
   | go_in)
  ·intro hc0 hl0
   have hnone:tks.any (fun t=>t.ak==k&&(t.au:Int)==u)=false:=by
    rw [List.any_eq_false];intro t ht;have hp:=(hC.perm kT hl0).mem_iff (a:=(1,(t.n:Int)));have:=hno t ht (hp.2 (List.mem_map.2 ⟨t.key,List.mem_reverse.2 (List.mem_map.2 ⟨t,ht,rfl⟩),rfl⟩))
    simpa using this
   have HR2:=Xb (Xa HR);rw [hnone,Bool.false_or] at HR2;clear HR hnone hno hC hrg kT;have hV2:=hV.below hB;obtain⟨kL,-⟩:=hV2.ok.ksL;obtain⟨nL,hnL,mL⟩:=hV2.held.mapL;have v4:=hV2.v.cell 4 (v:=.map (some ml)) rfl
   go_wp2_with (first
    | (at_range;refine wpList_range_own _ rfl _ 121 rfl 114 131 Yq underlying121 _ ml nL _ rfl mL ?_;intro w1 hrg1 hg1 hs1)
    | go_in)
   have hB1:Below w.heap.size w w1:=hB.trans ⟨hg1.os,hg1.tape,hg1.output,by have:=hg1.size;have:=hB.size;omega,fun j hj=>hg1.block j (by have:=hB.size;omega) (by simp)⟩;have bN1:=bNr.kept hg1 (by simp);have hzr:=hB.size;have hlr:=bNr.lt;clear v4 mL hV2 hg1 hB bNr hs1
   obtain⟨r,hr⟩:∃ r,wr.heap.size=r:=⟨_,rfl⟩
   rw [hr] at hrg1 hzr hlr;rw [hr];clear hr
   go_frame
   go_loopw [4] (fun v wr=>∃(left:Lit->Bool) (cnt:Nat) (ss:List (Int × Int)),wr.ranges prog 114 X8 ml r nL (mapD (lks.map Xd.key).reverse) left cnt/\Jj (lks.map Xd.key).reverse left ss/\(∀ t∈lks,(2,(t.n:Int))∈ss->(t.ak==k&&(t.au:Int)==u)=false)/\Below w.heap.size w wr/\BoxN wr w.heap.size 114 #[.int .i64 k,.int .u64 u]/\v=.bool false)
    (fun _ wr=>wr.rangeLeft ml r)
   case atStart =>
    exact⟨_,_,[],hrg1,Jj.start Xo kL,by simp,hB1,bN1,rfl⟩
   case round =>
    clear hrg1 hB1 bN1;obtain⟨left,cnt,ss,hrg,hC,hno,hB,bNr,rfl⟩:=hrel
    go_wp2_with (first
     | (at_next;refine wpList_next_ranges _ rfl _ rfl 114 Yq X8 nmV (fun v:Value=>v) (fun key kl hk=>by obtain⟨x,_,hx,_⟩:=Xo.inv hk;exact⟨x,hx⟩) (fun v _ _=>⟨v,rfl⟩) ml r nL _ _ _ rfl hrg ?_ ?_)
     | go_in)
    ·intro hc0 hl0
     have hnone:lks.any (fun t=>t.ak==k&&(t.au:Int)==u)=false:=by
      rw [List.any_eq_false];intro t ht;have hp:=(hC.perm kL hl0).mem_iff (a:=(2,(t.n:Int)));have:=hno t ht (hp.2 (List.mem_map.2 ⟨t.key,List.mem_reverse.2 (List.mem_map.2 ⟨t,ht,rfl⟩),rfl⟩))
      simpa using this
     have hfin:=Xb ((Xa HR2).symm.trans hnone);clear HR2 hnone hno hC hrg kL;go_wp2;go_ret;exact⟨by have:=Xa hfin;subst this;rfl,hB⟩
    intro a1 a2 c kl yd yp w2 cnt2 hkey hlk hv hat hrg2 hlt hg2 hs2 hen
    obtain⟨x,hx⟩:∃ x:Int × Int,x=(a1,a2):=⟨_,rfl⟩
    rw [<- hx] at hkey hen ⊢;clear hx a1 a2;obtain⟨hw,rfl,hin⟩:=Xap Xo kL hkey hv hat;obtain⟨t,ht,hte⟩:=List.mem_map.1 (List.mem_reverse.1 hin)
    obtain⟨rfl,rfl⟩:(2,(t.n:Int))=x /\ .agg t.cells=c:=⟨congrArg Prod.fst hte,congrArg Prod.snd hte⟩
    have hC2:=hC.step Xo hw hlk (List.mem_map.2 ⟨_,hin,rfl⟩);have bN2:=bNr.kept hg2 (by intro e;injection e with e;omega);have hB2:Below w.heap.size w w2:=hB.trans ⟨hg2.os,hg2.tape,hg2.output,by have:=hg2.size;have:=hB.size;omega,fun j hj=>hg2.block j (by have:=hB.size;omega) (by intro e;injection e with e;omega)⟩;unfold Xd.cells at hen ⊢;unfold nmV at hen ⊢;have hB3:=hB2.alloc hB2.size (.cells #[.int .i64 t.ak,.int .u64 t.au,.int .u64 t.at_,.int .i64 t.tr,.bool t.pd,.string ⟨t.pth.toArray⟩,.int .u64 t.last] 131);have bN3:=bN2.alloc (.cells #[.int .i64 t.ak,.int .u64 t.au,.int .u64 t.at_,.int .i64 t.tr,.bool t.pd,.string ⟨t.pth.toArray⟩,.int .u64 t.last] 131);have n0:=bN3.cell 0 (v:=.int .i64 k) rfl;have n1:=bN3.cell 1 (v:=.int .u64 u) rfl;have hrg3:=hrg2.of_walks (KeepsWalks.alloc _ (.cells #[.int .i64 t.ak,.int .u64 t.au,.int .u64 t.at_,.int .i64 t.tr,.bool t.pd,.string ⟨t.pth.toArray⟩,.int .u64 t.last] 131));have Hrg:=Xb hrg;clear hkey hv hat hs2 hte hin hC hrg hg2 bNr hB
    by_cases hab:(t.ak==k&&(t.au:Int)==u)=true
    ·have hfin:=Xb (show rs=true by rw [<- Xa HR2,List.any_eq_true.2 ⟨t,ht,hab⟩])
     obtain⟨rfl,rfl⟩:t.ak=k/\(t.au:Int)=u:=by simpa using hab
     clear hno hC2 hab HR2;go_wp2;go_ret;exact⟨by have:=Xa hfin;subst this;rfl,hB3⟩
    have hno2:∀ t'∈lks,(2,(t'.n:Int))∈ss ++ [(2,(t.n:Int))]->(t'.ak==k&&(t'.au:Int)==u)=false:=fun t' ht' hm=>by
     rcases List.mem_append.1 hm with hm | hm
     ·exact hno t' ht' hm
     have e:t'.n=t.n:=by
      have:=(Prod.mk.inj (List.mem_singleton.1 hm)).2;omega
     have:t'=t:=Xa9 (f:=Xd.n) hV.ok.incL ht' ht e;subst this
     simpa using hab
    have hF:=Xb (And.intro hrg3 (And.intro hC2 (And.intro hno2 (And.intro hB3 bN3))));have hM:Hid ((w2.alloc (.cells #[.int .i64 t.ak,.int .u64 t.au,.int .u64 t.at_,.int .i64 t.tr,.bool t.pd,.string ⟨t.pth.toArray⟩,.int .u64 t.last] 131)).rangeLeft ml r<wr.rangeLeft ml r):=Xb (by rw [hrg3.left_eq,(Xa Hrg).left_eq];exact hlt);clear hno hno2 hC2 HR2 hrg3 hB3 bN3 hrg2 hlt Hrg
    by_cases hk1:t.ak=k
    focus
     have hu1:(t.au:Int)≠u:=fun e=>hab (by simp [hk1,e])
     clear hab;subst hk1
    rotate_left
    focus
     clear hab
    rotate_left
    all_goals
     go_wp2;exact⟨⟨_,_,_,(Xa hF).1,(Xa hF).2.1,(Xa hF).2.2.1,(Xa hF).2.2.2.1,(Xa hF).2.2.2.2,rfl⟩,Xa hM⟩
  intro a1 a2 c kl yd yp w2 cnt2 hkey hlk hv hat hrg2 hlt hg2 hs2 hen
  obtain⟨x,hx⟩:∃ x:Int × Int,x=(a1,a2):=⟨_,rfl⟩
  rw [<- hx] at hkey hen ⊢;clear hx a1 a2;obtain⟨hw,rfl,hin⟩:=Xap Xo kT hkey hv hat;obtain⟨t,ht,hte⟩:=List.mem_map.1 (List.mem_reverse.1 hin)
  obtain⟨rfl,rfl⟩:(1,(t.n:Int))=x /\ .agg t.cells=c:=⟨congrArg Prod.fst hte,congrArg Prod.snd hte⟩
  have hC2:=hC.step Xo hw hlk (List.mem_map.2 ⟨_,hin,rfl⟩);have bN2:=bNr.kept hg2 (by intro e;injection e with e;omega);have hB2:Below w.heap.size w w2:=hB.trans ⟨hg2.os,hg2.tape,hg2.output,by have:=hg2.size;have:=hB.size;omega,fun j hj=>hg2.block j (by have:=hB.size;omega) (by intro e;injection e with e;omega)⟩;unfold Xe.cells at hen ⊢;unfold nmV at hen ⊢;have hB3:=hB2.alloc hB2.size (.cells #[.int .i64 t.ak,.int .u64 t.au,.int .u64 t.at_,.int .i64 t.tr,.bool t.pd] 153);have bN3:=bN2.alloc (.cells #[.int .i64 t.ak,.int .u64 t.au,.int .u64 t.at_,.int .i64 t.tr,.bool t.pd] 153);have n0:=bN3.cell 0 (v:=.int .i64 k) rfl;have n1:=bN3.cell 1 (v:=.int .u64 u) rfl;have hrg3:=hrg2.of_walks (KeepsWalks.alloc _ (.cells #[.int .i64 t.ak,.int .u64 t.au,.int .u64 t.at_,.int .i64 t.tr,.bool t.pd] 153));have Hrg:=Xb hrg;clear hkey hv hat hs2 hte hin hC hrg hg2 bNr hB
  by_cases hab:(t.ak==k&&(t.au:Int)==u)=true
  ·have hfin:=Xb (show rs=true by rw [<- Xa HR,List.any_eq_true.2 ⟨t,ht,hab⟩];rfl)
   obtain⟨rfl,rfl⟩:t.ak=k/\(t.au:Int)=u:=by simpa using hab
   clear hno hC2 hab HR;go_wp2;go_ret;exact⟨by have:=Xa hfin;subst this;rfl,hB3⟩
  have hno2:∀ t'∈tks,(1,(t'.n:Int))∈ss ++ [(1,(t.n:Int))]->(t'.ak==k&&(t'.au:Int)==u)=false:=fun t' ht' hm=>by
   rcases List.mem_append.1 hm with hm | hm
   ·exact hno t' ht' hm
   have e:t'.n=t.n:=by
    have:=(Prod.mk.inj (List.mem_singleton.1 hm)).2;omega
   have:t'=t:=Xa9 (f:=Xe.n) hV.ok.incT ht' ht e;subst this
   simpa using hab
  have hF:=Xb (And.intro hrg3 (And.intro hC2 (And.intro hno2 (And.intro hB3 bN3))));have hM:Hid ((w2.alloc (.cells #[.int .i64 t.ak,.int .u64 t.au,.int .u64 t.at_,.int .i64 t.tr,.bool t.pd] 153)).rangeLeft mt (w.heap.size+1)<wr.rangeLeft mt (w.heap.size+1)):=Xb (by rw [hrg3.left_eq,(Xa Hrg).left_eq];exact hlt);clear hno hno2 hC2 HR hrg3 hB3 bN3 hrg2 hlt Hrg
  by_cases hk1:t.ak=k
  focus
   have hu1:(t.au:Int)≠u:=fun e=>hab (by simp [hk1,e])
   clear hab;subst hk1
  rotate_left
  focus
   clear hab
  rotate_left
  all_goals
   go_wp2;exact⟨⟨_,_,_,(Xa hF).1,(Xa hF).2.1,(Xa hF).2.2.1,(Xa hF).2.2.2.1,(Xa hF).2.2.2.2,rfl⟩,Xa hM⟩
end Go.Proofs
