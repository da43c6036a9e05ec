import Derived.Test.YtjbekgjdempbiaaGreatDoorJTkD
import Derived.Test.YtjbekgjdempbiaaGreatDoorJAlive
import Derived.Test.YtjbekgjdempbiaaGreatDoorJRefQ0
set_option maxRecDepth 100000
set_option maxHeartbeats 8000000
namespace Go.Proofs
open Go.RowKit Go.Sort Go.Lib Go.Shelf Go.Maps
inductive ClimbN (tks:List TokE) (top:Int × Int) (b:Bool):Nat→Int × Int→Prop where
 | here (hb:b=true) {x:Int × Int} (hx:x=top):ClimbN tks top b 0 x
 | off (hb:b=false) {x:Int × Int} (hx:x≠top) (hw:NmWf x) (hn:∀ t∈tks,x≠(1,(t.n:Int))):ClimbN tks top b 0 x
 | up {m:Nat} {x:Int × Int} (t:TokE) (ht:t∈tks) (hx:x≠top) (he:x=(1,(t.n:Int))) (h:ClimbN tks top b m (t.ak,(t.au:Int))):ClimbN tks top b (m+1) x
def Tryz.WiR (tks:List TokE) (top:Int × Int) (b:Bool) (w wr:World) (m:Nat):Prop:=∃ y,ClimbN tks top b m y∧BoxN wr w.heap.size 114 #[.int .i64 y.1,.int .u64 y.2]∧BoxN wr (w.heap.size+1) 114 #[.int .i64 top.1,.int .u64 top.2]∧Below w.heap.size w wr
theorem Tryz.isWithin (vb mt ml:Nat) (vx:VX) (tm tn ln:Int) (tks:List TokE) (lks:List LeaE) (w:World) (hV:VaultAt w vb mt ml vx tm tn ln tks lks) (x top:Int × Int) (n:Nat) (b:Bool) (hC:ClimbN tks top b n x) :
  Calls prog 88 #[.pointer (some ⟨vb,0,none⟩),nmV x,nmV top] w fun e w'=>e=.returned (.bool b)∧Below w.heap.size w w':=by
 obtain⟨p1,p2⟩:=top;have bN:=(BoxN.new w 114 #[.int .i64 x.1,.int .u64 x.2]).alloc (.cells #[.int .i64 p1,.int .u64 p2] 114);have bT:=BoxN.new (w.alloc (.cells #[.int .i64 x.1,.int .u64 x.2] 114)) 114 #[.int .i64 p1,.int .u64 p2];rw [World.size_alloc] at bT;have hB0:Below w.heap.size w ((w.alloc (.cells #[.int .i64 x.1,.int .u64 x.2] 114)).alloc (.cells #[.int .i64 p1,.int .u64 p2] 114)):=((Below.refl _ w).alloc (Nat.le_refl _) _).alloc (by simp) _;have lv:=hV.v.lt
 have hst:∃ m,WiR tks (p1,p2) b w ((w.alloc (.cells #[.int .i64 x.1,.int .u64 x.2] 114)).alloc (.cells #[.int .i64 p1,.int .u64 p2] 114)) m:=⟨n,x,hC,bN,bT,hB0⟩
 clear bN bT hB0 hC;unfold nmV;go_enter func88,ntmps88
 go_wp2_with fail
 generalize (w.alloc (.cells #[.int .i64 x.1,.int .u64 x.2] 114)).alloc (.cells #[.int .i64 p1,.int .u64 p2] 114)=W0 at *
 go_loopw [] (fun wr=>∃ m,WiR tks (p1,p2) b w wr m) (fun wr=>leastOf (WiR tks (p1,p2) b w wr))
 case atStart=>exact hst
 case round =>
  clear hst;have hm:=leastOf_spec hrel;clear hrel
  obtain⟨m,hme⟩:∃ m,leastOf (WiR tks (p1,p2) b w wr)=m:=⟨_,rfl⟩
  rw [hme] at hm;have HM:=hid_intro hme;clear hme;obtain⟨⟨y1,y2⟩,hC,bN,bT,hB⟩:=hm;simp only at bN
  obtain⟨W1,hW1⟩:∃ W1,W1=wr:=⟨_,rfl⟩
  subst hW1
  obtain⟨N,hs0⟩:∃ N,W1.heap.size=N:=⟨_,rfl⟩
  have lT:=bT.lt;have lN:=bN.lt;have hzw:=hB.size;have n0:=bN.cell 0 (v:=.int .i64 y1) rfl;have n1:=bN.cell 1 (v:=.int .u64 y2) rfl;have t0:=bT.cell 0 (v:=.int .i64 p1) rfl;have t1:=bT.cell 1 (v:=.int .u64 p2) rfl;have hb1:Below N W1 W1.drew:=(Below.refl _ _).drew
  cases hC with
  | here hb hx =>
   subst hb;obtain⟨rfl,rfl⟩:=Prod.mk.inj hx;go_wp2;go_ret;exact⟨rfl,hB⟩
  | off hb hx hw hn =>
   subst hb
   have hS:∀ W,Below N W1 W→LkP vb 3 mt w.heap.size 120 y1 y2 (.tuple #[.agg #[.int .i64 0,.int .u64 0,.int .u64 0,.int .i64 0,.bool false],.bool false]) W:=fun W hb=>by
    have bN':=bN.below hb (by omega);have hV':=hV.below (hB.trans (hb.mono (by omega)));exact⟨hV'.v.cell 3 rfl,bN'.cell 0 rfl,bN'.cell 1 rfl,hV'.lookT_no hw hn⟩
   by_cases h1:y1=p1
   ·have h2:y2≠p2:=fun e=>hx (Prod.ext h1 e)
    subst h1
    go_wp2_with fail
    refine wp_region_held_drew (S:=(LkP vb 3 mt w.heap.size 120 y1 y2 (.tuple #[.agg #[.int .i64 0,.int .u64 0,.int .u64 0,.int .i64 0,.bool false],.bool false]))) (by kernel_rfl) (hS _ hb1) (fun hS0=>?_);refine wpAnyH_take (i:=0) (v:=?v0a) rfl (by kernel_rfl) (by kernel_rfl) (by kernel_rfl) (fun _ _ _ h=>h) (Or.inl ⟨by kernel_rfl,?y0a⟩) hS0 ?_
    case y0a=>(intro w hSw;obtain⟨q0,q1,q2,q3⟩:=hSw;go_simp;try with_reducible rfl)
    refine wpAnyH_take (i:=1) (v:=?v1a) rfl (by kernel_rfl) (by kernel_rfl) (by kernel_rfl) (fun _ _ _ h=>h) (Or.inl ⟨by kernel_rfl,?y1a⟩) hS0 ?_
    case y1a=>(intro w hSw;obtain⟨q0,q1,q2,q3⟩:=hSw;go_simp;try with_reducible rfl)
    refine wpAnyH_take (i:=2) (v:=?v2a) rfl (by kernel_rfl) (by kernel_rfl) (by kernel_rfl) (fun _ _ _ h=>h) (Or.inl ⟨by kernel_rfl,?y2a⟩) hS0 ?_
    case y2a=>(intro w hSw;obtain⟨q0,q1,q2,q3⟩:=hSw;go_simp;try with_reducible rfl)
    refine wpAnyH_take (i:=3) (v:=?v3a) rfl (by kernel_rfl) (by kernel_rfl) (by kernel_rfl) (fun _ _ _ h=>h) (Or.inl ⟨by kernel_rfl,?y3a⟩) hS0 ?_
    case y3a=>(intro w hSw;obtain⟨q0,q1,q2,q3⟩:=hSw;go_simp;try with_reducible rfl)
    refine wpAnyH_take (i:=4) (v:=?v4a) rfl (by kernel_rfl) (by kernel_rfl) (by kernel_rfl) (fun _ _ _ h=>h) (Or.inl ⟨by kernel_rfl,?y4a⟩) hS0 ?_
    case y4a=>(intro w hSw;obtain⟨q0,q1,q2,q3⟩:=hSw;go_simp;try with_reducible rfl)
    refine wpAnyH_take (i:=5) (v:=?v5a) rfl (by kernel_rfl) (by kernel_rfl) (by kernel_rfl) (fun _ _ _ h=>h) (Or.inl ⟨by kernel_rfl,?y5a⟩) hS0 ?_
    case y5a=>(intro w hSw;obtain⟨q0,q1,q2,q3⟩:=hSw;go_simp;try with_reducible rfl)
    refine wpAnyH_take (i:=6) (v:=?v6a) rfl (by kernel_rfl) (by kernel_rfl) (by kernel_rfl) (fun _ _ _ h=>h) (Or.inl ⟨by kernel_rfl,?y6a⟩) hS0 ?_
    case y6a=>(intro w hSw;obtain⟨q0,q1,q2,q3⟩:=hSw;go_simp;try with_reducible rfl)
    refine wpAnyH_take (i:=7) (v:=?v7a) rfl (by kernel_rfl) (by kernel_rfl) (by kernel_rfl) (fun _ _ _ h=>h) (Or.inl ⟨by kernel_rfl,?y7a⟩) hS0 ?_
    case y7a=>(intro w hSw;obtain⟨q0,q1,q2,q3⟩:=hSw;go_simp;try with_reducible rfl)
    refine wpAnyH_take (i:=8) (v:=?v8a) rfl (by kernel_rfl) (by kernel_rfl) (by kernel_rfl) (fun _ _ _ h=>h) (Or.inl ⟨by kernel_rfl,?y8a⟩) hS0 ?_
    case y8a=>(intro w hSw;obtain⟨q0,q1,q2,q3⟩:=hSw;go_simp;try with_reducible rfl)
    refine wpAnyH_ready (rs:=[9]) (by kernel_rfl) (by simp) ?_;refine AllReadyH.cons rfl (fun K hK=>?_) AllReadyH.nil;go_simp;refine hK.out _ _ (hS _ (hb1.alloc (by simp [hs0]) _)) (fun hS1=>?_);clear hK K;refine wpAnyH_ready (rs:=[10]) (by kernel_rfl) (by simp) ?_;refine AllReadyH.cons rfl (fun K hK=>?_) AllReadyH.nil;go_simp;have hb2:Below N W1 (W1.alloc (.cells #[.int .i64 0,.int .u64 0,.int .u64 0,.int .i64 0,.bool false] 153)).drew:=((Below.refl _ _).alloc (by omega) _).drew;refine hK.out _ _ (hS _ hb2) (fun hS2=>?_);clear hK K;refine wpAnyH_ready (rs:=[11]) (by kernel_rfl) (by simp) ?_;refine AllReadyH.cons rfl (fun K hK=>?_) AllReadyH.nil;go_simp;refine hK.out _ _ hS2 (fun _=>?_);clear hK K hS0 hS1 hS2;refine wpAnyH_done (by kernel_rfl) ?_ _;go_wp2;go_ret;exact⟨rfl,hB.trans (hb2.mono (by omega))⟩
   ·go_wp2_with fail
    refine wp_region_held_drew (S:=(LkP vb 3 mt w.heap.size 120 y1 y2 (.tuple #[.agg #[.int .i64 0,.int .u64 0,.int .u64 0,.int .i64 0,.bool false],.bool false]))) (by kernel_rfl) (hS _ hb1) (fun hS0=>?_);refine wpAnyH_take (i:=0) (v:=?v0b) rfl (by kernel_rfl) (by kernel_rfl) (by kernel_rfl) (fun _ _ _ h=>h) (Or.inl ⟨by kernel_rfl,?y0b⟩) hS0 ?_
    case y0b=>(intro w hSw;obtain⟨q0,q1,q2,q3⟩:=hSw;go_simp;try with_reducible rfl)
    refine wpAnyH_take (i:=1) (v:=?v1b) rfl (by kernel_rfl) (by kernel_rfl) (by kernel_rfl) (fun _ _ _ h=>h) (Or.inl ⟨by kernel_rfl,?y1b⟩) hS0 ?_
    case y1b=>(intro w hSw;obtain⟨q0,q1,q2,q3⟩:=hSw;go_simp;try with_reducible rfl)
    refine wpAnyH_take (i:=2) (v:=?v2b) rfl (by kernel_rfl) (by kernel_rfl) (by kernel_rfl) (fun _ _ _ h=>h) (Or.inl ⟨by kernel_rfl,?y2b⟩) hS0 ?_
    case y2b=>(intro w hSw;obtain⟨q0,q1,q2,q3⟩:=hSw;go_simp;try with_reducible rfl)
    refine wpAnyH_take (i:=3) (v:=?v3b) rfl (by kernel_rfl) (by kernel_rfl) (by kernel_rfl) (fun _ _ _ h=>h) (Or.inl ⟨by kernel_rfl,?y3b⟩) hS0 ?_
    case y3b=>(intro w hSw;obtain⟨q0,q1,q2,q3⟩:=hSw;go_simp;try with_reducible rfl)
    refine wpAnyH_take (i:=4) (v:=?v4b) rfl (by kernel_rfl) (by kernel_rfl) (by kernel_rfl) (fun _ _ _ h=>h) (Or.inl ⟨by kernel_rfl,?y4b⟩) hS0 ?_
    case y4b=>(intro w hSw;obtain⟨q0,q1,q2,q3⟩:=hSw;go_simp;try with_reducible rfl)
    refine wpAnyH_take (i:=5) (v:=?v5b) rfl (by kernel_rfl) (by kernel_rfl) (by kernel_rfl) (fun _ _ _ h=>h) (Or.inl ⟨by kernel_rfl,?y5b⟩) hS0 ?_
    case y5b=>(intro w hSw;obtain⟨q0,q1,q2,q3⟩:=hSw;go_simp;try with_reducible rfl)
    refine wpAnyH_take (i:=6) (v:=?v6b) rfl (by kernel_rfl) (by kernel_rfl) (by kernel_rfl) (fun _ _ _ h=>h) (Or.inl ⟨by kernel_rfl,?y6b⟩) hS0 ?_
    case y6b=>(intro w hSw;obtain⟨q0,q1,q2,q3⟩:=hSw;go_simp;try with_reducible rfl)
    refine wpAnyH_take (i:=7) (v:=?v7b) rfl (by kernel_rfl) (by kernel_rfl) (by kernel_rfl) (fun _ _ _ h=>h) (Or.inl ⟨by kernel_rfl,?y7b⟩) hS0 ?_
    case y7b=>(intro w hSw;obtain⟨q0,q1,q2,q3⟩:=hSw;go_simp;try with_reducible rfl)
    refine wpAnyH_take (i:=8) (v:=?v8b) rfl (by kernel_rfl) (by kernel_rfl) (by kernel_rfl) (fun _ _ _ h=>h) (Or.inl ⟨by kernel_rfl,?y8b⟩) hS0 ?_
    case y8b=>(intro w hSw;obtain⟨q0,q1,q2,q3⟩:=hSw;go_simp;try with_reducible rfl)
    refine wpAnyH_ready (rs:=[9]) (by kernel_rfl) (by simp) ?_;refine AllReadyH.cons rfl (fun K hK=>?_) AllReadyH.nil;go_simp;refine hK.out _ _ (hS _ (hb1.alloc (by simp [hs0]) _)) (fun hS1=>?_);clear hK K;refine wpAnyH_ready (rs:=[10]) (by kernel_rfl) (by simp) ?_;refine AllReadyH.cons rfl (fun K hK=>?_) AllReadyH.nil;go_simp;have hb2:Below N W1 (W1.alloc (.cells #[.int .i64 0,.int .u64 0,.int .u64 0,.int .i64 0,.bool false] 153)).drew:=((Below.refl _ _).alloc (by omega) _).drew;refine hK.out _ _ (hS _ hb2) (fun hS2=>?_);clear hK K;refine wpAnyH_ready (rs:=[11]) (by kernel_rfl) (by simp) ?_;refine AllReadyH.cons rfl (fun K hK=>?_) AllReadyH.nil;go_simp;refine hK.out _ _ hS2 (fun _=>?_);clear hK K hS0 hS1 hS2;refine wpAnyH_done (by kernel_rfl) ?_ _;go_wp2;go_ret;exact⟨rfl,hB.trans (hb2.mono (by omega))⟩
  | @up m' _ t ht hx he h =>
   have hS:∀ W,Below N W1 W→LkP vb 3 mt w.heap.size 120 y1 y2 (.tuple #[.agg #[.int .i64 t.ak,.int .u64 t.au,.int .u64 t.at_,.int .i64 t.tr,.bool t.pd],.bool true]) W:=fun W hb=>by
    have bN':=bN.below hb (by omega);have hV':=hV.below (hB.trans (hb.mono (by omega)));have hl:=hV'.lookT ht;rw [← he] at hl;exact⟨hV'.v.cell 3 rfl,bN'.cell 0 rfl,bN'.cell 1 rfl,hl⟩
   have hBt:BoxN (W1.alloc (.cells #[.int .i64 t.ak,.int .u64 t.au,.int .u64 t.at_,.int .i64 t.tr,.bool t.pd] 153)).drew N 153 #[.int .i64 t.ak,.int .u64 t.au,.int .u64 t.at_,.int .i64 t.tr,.bool t.pd]:=by
    have h:=BoxN.new W1 153 #[.int .i64 t.ak,.int .u64 t.au,.int .u64 t.at_,.int .i64 t.tr,.bool t.pd];rw [hs0] at h;exact h
   have hfin:∀ W2,Below N W1 W2→WiR tks (p1,p2) b w ((W2.setCell ⟨w.heap.size,0,none⟩ (.int .i64 t.ak)).setCell ⟨w.heap.size,1,none⟩ (.int .u64 t.au)) m':=fun W2 hb2=>⟨(t.ak,(t.au:Int)),h,((bN.below hb2 (by omega)).set 0 (.int .i64 t.ak)).set 1 (.int .u64 t.au),((bT.below hb2 (by omega)).other (by omega) 0 _).other (by omega) 1 _,((hB.trans (hb2.mono (by omega))).setCell (p:=⟨w.heap.size,0,none⟩) (Nat.le_refl _) _).setCell (p:=⟨w.heap.size,1,none⟩) (Nat.le_refl _) _⟩
   have HF:=hid_intro hfin;clear hfin h
   by_cases h1:y1=p1
   ·have h2:y2≠p2:=fun e=>hx (Prod.ext h1 e)
    subst h1
    go_wp2_with fail
    refine wp_region_held_drew (S:=(LkP vb 3 mt w.heap.size 120 y1 y2 (.tuple #[.agg #[.int .i64 t.ak,.int .u64 t.au,.int .u64 t.at_,.int .i64 t.tr,.bool t.pd],.bool true]))) (by kernel_rfl) (hS _ hb1) (fun hS0=>?_);refine wpAnyH_take (i:=0) (v:=?v0c) rfl (by kernel_rfl) (by kernel_rfl) (by kernel_rfl) (fun _ _ _ h=>h) (Or.inl ⟨by kernel_rfl,?y0c⟩) hS0 ?_
    case y0c=>(intro w hSw;obtain⟨q0,q1,q2,q3⟩:=hSw;go_simp;try with_reducible rfl)
    refine wpAnyH_take (i:=1) (v:=?v1c) rfl (by kernel_rfl) (by kernel_rfl) (by kernel_rfl) (fun _ _ _ h=>h) (Or.inl ⟨by kernel_rfl,?y1c⟩) hS0 ?_
    case y1c=>(intro w hSw;obtain⟨q0,q1,q2,q3⟩:=hSw;go_simp;try with_reducible rfl)
    refine wpAnyH_take (i:=2) (v:=?v2c) rfl (by kernel_rfl) (by kernel_rfl) (by kernel_rfl) (fun _ _ _ h=>h) (Or.inl ⟨by kernel_rfl,?y2c⟩) hS0 ?_
    case y2c=>(intro w hSw;obtain⟨q0,q1,q2,q3⟩:=hSw;go_simp;try with_reducible rfl)
    refine wpAnyH_take (i:=3) (v:=?v3c) rfl (by kernel_rfl) (by kernel_rfl) (by kernel_rfl) (fun _ _ _ h=>h) (Or.inl ⟨by kernel_rfl,?y3c⟩) hS0 ?_
    case y3c=>(intro w hSw;obtain⟨q0,q1,q2,q3⟩:=hSw;go_simp;try with_reducible rfl)
    refine wpAnyH_take (i:=4) (v:=?v4c) rfl (by kernel_rfl) (by kernel_rfl) (by kernel_rfl) (fun _ _ _ h=>h) (Or.inl ⟨by kernel_rfl,?y4c⟩) hS0 ?_
    case y4c=>(intro w hSw;obtain⟨q0,q1,q2,q3⟩:=hSw;go_simp;try with_reducible rfl)
    refine wpAnyH_take (i:=5) (v:=?v5c) rfl (by kernel_rfl) (by kernel_rfl) (by kernel_rfl) (fun _ _ _ h=>h) (Or.inl ⟨by kernel_rfl,?y5c⟩) hS0 ?_
    case y5c=>(intro w hSw;obtain⟨q0,q1,q2,q3⟩:=hSw;go_simp;try with_reducible rfl)
    refine wpAnyH_take (i:=6) (v:=?v6c) rfl (by kernel_rfl) (by kernel_rfl) (by kernel_rfl) (fun _ _ _ h=>h) (Or.inl ⟨by kernel_rfl,?y6c⟩) hS0 ?_
    case y6c=>(intro w hSw;obtain⟨q0,q1,q2,q3⟩:=hSw;go_simp;try with_reducible rfl)
    refine wpAnyH_take (i:=7) (v:=?v7c) rfl (by kernel_rfl) (by kernel_rfl) (by kernel_rfl) (fun _ _ _ h=>h) (Or.inl ⟨by kernel_rfl,?y7c⟩) hS0 ?_
    case y7c=>(intro w hSw;obtain⟨q0,q1,q2,q3⟩:=hSw;go_simp;try with_reducible rfl)
    refine wpAnyH_take (i:=8) (v:=?v8c) rfl (by kernel_rfl) (by kernel_rfl) (by kernel_rfl) (fun _ _ _ h=>h) (Or.inl ⟨by kernel_rfl,?y8c⟩) hS0 ?_
    case y8c=>(intro w hSw;obtain⟨q0,q1,q2,q3⟩:=hSw;go_simp;try with_reducible rfl)
    refine wpAnyH_ready (rs:=[9]) (by kernel_rfl) (by simp) ?_;refine AllReadyH.cons rfl (fun K hK=>?_) AllReadyH.nil;go_simp;refine hK.out _ _ (hS _ (hb1.alloc (by simp [hs0]) _)) (fun hS1=>?_);clear hK K;refine wpAnyH_ready (rs:=[10]) (by kernel_rfl) (by simp) ?_;refine AllReadyH.cons rfl (fun K hK=>?_) AllReadyH.nil;go_simp;have hb2:Below N W1 (W1.alloc (.cells #[.int .i64 t.ak,.int .u64 t.au,.int .u64 t.at_,.int .i64 t.tr,.bool t.pd] 153)).drew:=((Below.refl _ _).alloc (by omega) _).drew;refine hK.out _ _ (hS _ hb2) (fun hS2=>?_);clear hK K;refine wpAnyH_ready (rs:=[11]) (by kernel_rfl) (by simp) ?_;refine AllReadyH.cons rfl (fun K hK=>?_) AllReadyH.nil;go_simp;refine hK.out _ _ hS2 (fun _=>?_);clear hK K hS0 hS1 hS2;refine wpAnyH_done (by kernel_rfl) ?_ _;have bN2:=bN.below hb2 (by omega);have r:=(hid_elim HF) _ hb2;generalize (W1.alloc (.cells #[.int .i64 t.ak,.int .u64 t.au,.int .u64 t.at_,.int .i64 t.tr,.bool t.pd] 153)).drew=W2 at *;have u0:=hBt.cell 0 (v:=.int .i64 t.ak) rfl;have u1:=hBt.cell 1 (v:=.int .u64 t.au) rfl;have z0:=bN2.cell 0 (v:=.int .i64 y1) rfl;have z1:=bN2.cell 1 (v:=.int .u64 y2) rfl;have f0:=bN2.frozen 0;have f1:=bN2.frozen 1;clear hS n0 n1 t0 t1;go_wp2;exact⟨⟨_,r⟩,by rw [hid_elim HM];exact Nat.lt_succ_of_le (leastOf_le r)⟩
   ·go_wp2_with fail
    refine wp_region_held_drew (S:=(LkP vb 3 mt w.heap.size 120 y1 y2 (.tuple #[.agg #[.int .i64 t.ak,.int .u64 t.au,.int .u64 t.at_,.int .i64 t.tr,.bool t.pd],.bool true]))) (by kernel_rfl) (hS _ hb1) (fun hS0=>?_);refine wpAnyH_take (i:=0) (v:=?v0d) rfl (by kernel_rfl) (by kernel_rfl) (by kernel_rfl) (fun _ _ _ h=>h) (Or.inl ⟨by kernel_rfl,?y0d⟩) hS0 ?_
    case y0d=>(intro w hSw;obtain⟨q0,q1,q2,q3⟩:=hSw;go_simp;try with_reducible rfl)
    refine wpAnyH_take (i:=1) (v:=?v1d) rfl (by kernel_rfl) (by kernel_rfl) (by kernel_rfl) (fun _ _ _ h=>h) (Or.inl ⟨by kernel_rfl,?y1d⟩) hS0 ?_
    case y1d=>(intro w hSw;obtain⟨q0,q1,q2,q3⟩:=hSw;go_simp;try with_reducible rfl)
    refine wpAnyH_take (i:=2) (v:=?v2d) rfl (by kernel_rfl) (by kernel_rfl) (by kernel_rfl) (fun _ _ _ h=>h) (Or.inl ⟨by kernel_rfl,?y2d⟩) hS0 ?_
    case y2d=>(intro w hSw;obtain⟨q0,q1,q2,q3⟩:=hSw;go_simp;try with_reducible rfl)
    refine wpAnyH_take (i:=3) (v:=?v3d) rfl (by kernel_rfl) (by kernel_rfl) (by kernel_rfl) (fun _ _ _ h=>h) (Or.inl ⟨by kernel_rfl,?y3d⟩) hS0 ?_
    case y3d=>(intro w hSw;obtain⟨q0,q1,q2,q3⟩:=hSw;go_simp;try with_reducible rfl)
    refine wpAnyH_take (i:=4) (v:=?v4d) rfl (by kernel_rfl) (by kernel_rfl) (by kernel_rfl) (fun _ _ _ h=>h) (Or.inl ⟨by kernel_rfl,?y4d⟩) hS0 ?_
    case y4d=>(intro w hSw;obtain⟨q0,q1,q2,q3⟩:=hSw;go_simp;try with_reducible rfl)
    refine wpAnyH_take (i:=5) (v:=?v5d) rfl (by kernel_rfl) (by kernel_rfl) (by kernel_rfl) (fun _ _ _ h=>h) (Or.inl ⟨by kernel_rfl,?y5d⟩) hS0 ?_
    case y5d=>(intro w hSw;obtain⟨q0,q1,q2,q3⟩:=hSw;go_simp;try with_reducible rfl)
    refine wpAnyH_take (i:=6) (v:=?v6d) rfl (by kernel_rfl) (by kernel_rfl) (by kernel_rfl) (fun _ _ _ h=>h) (Or.inl ⟨by kernel_rfl,?y6d⟩) hS0 ?_
    case y6d=>(intro w hSw;obtain⟨q0,q1,q2,q3⟩:=hSw;go_simp;try with_reducible rfl)
    refine wpAnyH_take (i:=7) (v:=?v7d) rfl (by kernel_rfl) (by kernel_rfl) (by kernel_rfl) (fun _ _ _ h=>h) (Or.inl ⟨by kernel_rfl,?y7d⟩) hS0 ?_
    case y7d=>(intro w hSw;obtain⟨q0,q1,q2,q3⟩:=hSw;go_simp;try with_reducible rfl)
    refine wpAnyH_take (i:=8) (v:=?v8d) rfl (by kernel_rfl) (by kernel_rfl) (by kernel_rfl) (fun _ _ _ h=>h) (Or.inl ⟨by kernel_rfl,?y8d⟩) hS0 ?_
    case y8d=>(intro w hSw;obtain⟨q0,q1,q2,q3⟩:=hSw;go_simp;try with_reducible rfl)
    refine wpAnyH_ready (rs:=[9]) (by kernel_rfl) (by simp) ?_;refine AllReadyH.cons rfl (fun K hK=>?_) AllReadyH.nil;go_simp;refine hK.out _ _ (hS _ (hb1.alloc (by simp [hs0]) _)) (fun hS1=>?_);clear hK K;refine wpAnyH_ready (rs:=[10]) (by kernel_rfl) (by simp) ?_;refine AllReadyH.cons rfl (fun K hK=>?_) AllReadyH.nil;go_simp;have hb2:Below N W1 (W1.alloc (.cells #[.int .i64 t.ak,.int .u64 t.au,.int .u64 t.at_,.int .i64 t.tr,.bool t.pd] 153)).drew:=((Below.refl _ _).alloc (by omega) _).drew;refine hK.out _ _ (hS _ hb2) (fun hS2=>?_);clear hK K;refine wpAnyH_ready (rs:=[11]) (by kernel_rfl) (by simp) ?_;refine AllReadyH.cons rfl (fun K hK=>?_) AllReadyH.nil;go_simp;refine hK.out _ _ hS2 (fun _=>?_);clear hK K hS0 hS1 hS2;refine wpAnyH_done (by kernel_rfl) ?_ _;have bN2:=bN.below hb2 (by omega);have r:=(hid_elim HF) _ hb2;generalize (W1.alloc (.cells #[.int .i64 t.ak,.int .u64 t.au,.int .u64 t.at_,.int .i64 t.tr,.bool t.pd] 153)).drew=W2 at *;have u0:=hBt.cell 0 (v:=.int .i64 t.ak) rfl;have u1:=hBt.cell 1 (v:=.int .u64 t.au) rfl;have z0:=bN2.cell 0 (v:=.int .i64 y1) rfl;have z1:=bN2.cell 1 (v:=.int .u64 y2) rfl;have f0:=bN2.frozen 0;have f1:=bN2.frozen 1;clear hS n0 n1 t0 t1;go_wp2;exact⟨⟨_,r⟩,by rw [hid_elim HM];exact Nat.lt_succ_of_le (leastOf_le r)⟩
end Go.Proofs
namespace Go.Proofs
open Go.RowKit Go.Sort Go.Lib Go.Shelf
theorem Tryz.rRevoke_hit (B:Nat) (vb g cap:Nat) (L:List ThingD) (tm tn ln:Int) (id:List UInt8) (w:World) (h:RVAt B w vb g cap L tm tn ln) (hB:B≤w.heap.size) (hne:vb≠g) (i:Nat) (t:ThingD) (ht:L[i]? = some t) (hfi:findI id L=i) (htk:t.token=false) :
  Calls prog 114 #[.pointer (some ⟨vb,0,none⟩),.string ⟨id.toArray⟩] w fun e w'=>e=.returned (.int .i64 0)∧RVAt B w' vb g cap (L.set i (doomAt tm t)) tm tn ln∧Below B w w'∧Spares [vb,g] w w':=by
 have hF:=rFind B vb g cap L tm tn ln id w h;rw [hfi] at hF;have hD:=hid_intro (fun W (hb:Below w.heap.size w W)=>rDoom B vb g cap L tm tn ln W (h.below hb) (Nat.le_trans hB hb.size) hne i t ht);have hlim:=h.lim;have hil:i<L.length:=(List.getElem?_eq_some_iff.1 ht).1
 have hc:=fun W (hb:Below w.heap.size w W)=>((h.below hb).cells ht).1
 rw [htk] at hc
 have hv:=fun W (hb:Below w.heap.size w W)=>(h.below hb).v.cell 0 (v:=.slice (some ⟨g,0,none⟩) L.length cap) rfl
 obtain⟨len,hlen⟩:∃ len,L.length=len:=⟨_,rfl⟩
 rw [hlen] at hil hlim;simp only [hlen] at hv;clear hlen hfi htk
 have hnn:¬ (i:Int)<0:=by omega
 go_enter func114,ntmps114
 go_wp2_with (first
  | (go_at_call 157;refine hF.mono ?_;rintro e w1 ⟨rfl,hb1⟩;have x0:=hc w1 hb1;have v0:=hv w1 hb1)
  | (go_at_call 158;refine(hid_elim hD _ hb1).mono ?_;rintro e w2 ⟨rfl,hr2,hb2,hs2⟩))
 exact bodyPost_ret (v:=.int .i64 0) (by simp [results,results114,go_sem]) rfl ⟨rfl,hr2,(hb1.mono hB).trans hb2,(Spares.of_below hb1).trans hs2⟩
theorem Tryz.rRevoke_miss (B:Nat) (vb g cap:Nat) (L:List ThingD) (tm tn ln:Int) (id:List UInt8) (w:World) (h:RVAt B w vb g cap L tm tn ln) (hm:findI id L = -1∨∃(i:Nat) (t:ThingD),L[i]? = some t∧findI id L=i∧t.token=true) :
  Calls prog 114 #[.pointer (some ⟨vb,0,none⟩),.string ⟨id.toArray⟩] w fun e w'=>e=.returned (.int .i64 5)∧Below w.heap.size w w':=by
 have hF:=rFind B vb g cap L tm tn ln id w h
 rcases hm with hm | ⟨i,t,ht,hfi,htk⟩
 ·rw [hm] at hF
  clear hm;go_enter func114,ntmps114
  go_wp2_with (go_at_call 157;refine hF.mono ?_;rintro e w1 ⟨rfl,hb1⟩)
  exact bodyPost_ret (v:=.int .i64 5) (by simp [results,results114,go_sem]) rfl ⟨rfl,hb1⟩
 ·rw [hfi] at hF
  have hlim:=h.lim;have hil:i<L.length:=(List.getElem?_eq_some_iff.1 ht).1
  have hc:=fun W (hb:Below w.heap.size w W)=>((h.below hb).cells ht).1
  rw [htk] at hc
  have hv:=fun W (hb:Below w.heap.size w W)=>(h.below hb).v.cell 0 (v:=.slice (some ⟨g,0,none⟩) L.length cap) rfl
  obtain⟨len,hlen⟩:∃ len,L.length=len:=⟨_,rfl⟩
  rw [hlen] at hil hlim;simp only [hlen] at hv;clear hlen hfi htk
  have hnn:¬ (i:Int)<0:=by omega
  go_enter func114,ntmps114
  go_wp2_with (go_at_call 157;refine hF.mono ?_;rintro e w1 ⟨rfl,hb1⟩;have x0:=hc w1 hb1;have v0:=hv w1 hb1)
  exact bodyPost_ret (v:=.int .i64 5) (by simp [results,results114,go_sem]) rfl ⟨rfl,hb1⟩
theorem bytes_take (l:List UInt8) (n:Nat):(⟨l.toArray⟩:ByteArray).extract 0 n=⟨(l.take n).toArray⟩:=by
 apply ByteArray.ext;rw [ByteArray.data_extract];simp
def beginsB (p pre:List UInt8):Bool:=pre.isEmpty||p==pre||(decide (pre.length<p.length)&&p.take pre.length==pre&&p[pre.length]? == some 47)
theorem Tryz.rBegins (p pre:List UInt8) (hq:pre.length≤1000000) (w:World) :
  Calls prog 159 #[.string ⟨p.toArray⟩,.string ⟨pre.toArray⟩] w fun e w'=>e=.returned (.bool (beginsB p pre))∧w'=w:=by
 have hr:Hid (beginsB p pre=(pre.isEmpty||p==pre||(decide (pre.length<p.length)&&p.take pre.length==pre&&p[pre.length]? == some 47))):=hid_intro rfl;generalize beginsB p pre=res at *;have hx:=bytes_take p pre.length
 by_cases h0:pre.length=0
 ·obtain rfl:pre = []:=List.length_eq_zero_iff.1 h0
  go_enter func159,ntmps159;go_wp2;go_ret;exact⟨by rw [hid_elim hr];rfl,rfl⟩
 ·have he:Hid (pre.isEmpty=false):=hid_intro (by cases pre <;> simp at h0 ⊢)
  have h0':((pre.length:Int)==0)=false:=by simpa using h0
  by_cases h1:p=pre
  ·have h1':(p==pre)=true:=by simpa using h1
   go_enter func159,ntmps159;go_wp2;go_ret;exact⟨by rw [hid_elim hr,h1'];simp,rfl⟩
  ·have h1':(p==pre)=false:=by simpa using h1
   by_cases h2:pre.length<p.length
   ·obtain⟨c,hc⟩:∃ c,p[pre.length]? = some c:=⟨p[pre.length],by simp [h2]⟩
    have hck:∀ hp,((⟨p.toArray⟩:ByteArray)[pre.length]'hp)=c:=fun hp=>by
     have h1:p[pre.length]'h2=c:=by simpa [h2] using hc
     rw [← h1];rfl
    have hr':Hid (res=(p.take pre.length==pre&&c==47)):=hid_intro (by rw [hid_elim hr,hid_elim he,h1',hc];simp [h2]);clear hr hc h1
    by_cases h3:p.take pre.length=pre
    ·have h3':(p.take pre.length==pre)=true:=by simpa using h3
     rw [h3'] at hr';rw [h3] at hx
     by_cases h4:c=47
     ·subst h4
      go_enter func159,ntmps159;go_wp2
      all_goals simp only [hck] at *
      go_ret;exact⟨by rw [hid_elim hr'];rfl,rfl⟩
     ·have h4':(c==47)=false:=by simpa using h4
      have h5:((c.toNat:Int)==47)=false:=by
       rw [beq_eq_false_iff_ne];intro e;exact h4 (by apply UInt8.toNat_inj.1;simpa using Int.ofNat_inj.1 e)
      rw [h4'] at hr';go_enter func159,ntmps159;go_wp2
      all_goals simp only [hck] at *
      go_ret;exact⟨by rw [hid_elim hr'];simp,rfl⟩
    ·have h3':(p.take pre.length==pre)=false:=by simpa using h3
     rw [h3'] at hr';go_enter func159,ntmps159;go_wp2;go_ret;exact⟨by rw [hid_elim hr'];rfl,rfl⟩
   ·have hr':Hid (res=false):=hid_intro (by rw [hid_elim hr,hid_elim he,h1'];simp [h2])
    clear hr;go_enter func159,ntmps159;go_wp2;go_ret;exact⟨by rw [hid_elim hr'];rfl,rfl⟩
def mixI {α:Type} (f:α→α) (k:Nat) (L:List α):List α:=(L.take k).map f++L.drop k
theorem mixI_zero {α:Type} (f:α→α) (L:List α):mixI f 0 L=L:=by simp [mixI]
theorem mixI_all {α:Type} (f:α→α) (L:List α) {k:Nat} (h:L.length≤k):mixI f k L=L.map f:=by simp [mixI,List.take_of_length_le h,List.drop_of_length_le h]
theorem mixI_length {α:Type} (f:α→α) (k:Nat) (L:List α):(mixI f k L).length=L.length:=by simp [mixI];omega
theorem mixI_get {α:Type} (f:α→α) {k:Nat} {L:List α} {t:α} (h:L[k]? = some t):(mixI f k L)[k]? = some t:=by
 obtain⟨hlt,he⟩:=List.getElem?_eq_some_iff.1 h;rw [mixI,List.getElem?_append_right (by simp;omega)];simp [Nat.min_eq_left (Nat.le_of_lt hlt),hlt,he]
theorem mixI_succ {α:Type} (f:α→α) {k:Nat} {L:List α} {t:α} (h:L[k]? = some t):mixI f (k+1) L=(mixI f k L).set k (f t):=by
 obtain⟨hlt,he⟩:=List.getElem?_eq_some_iff.1 h;rw [mixI,mixI,List.set_append_right _ _ (by simp;omega),take_get h];simp [Nat.min_eq_left (Nat.le_of_lt hlt)];rw [List.drop_eq_getElem_cons hlt];rfl
end Go.Proofs
namespace Go.Proofs
open Go.RowKit Go.Sort Go.Lib Go.Shelf Go.Maps
theorem bytes_drop (p:List UInt8) (n:Nat):(⟨p.toArray⟩:ByteArray).extract n p.length=⟨(p.drop n).toArray⟩:=by
 apply ByteArray.ext;rw [ByteArray.data_extract];simp;exact List.take_of_length_le (by simp)
theorem Tryz.hasPre (p pre:List UInt8) (w:World) :
  Calls prog 204 #[.string ⟨p.toArray⟩,.string ⟨pre.toArray⟩] w fun e w'=>e=.returned (.bool (p.take pre.length==pre))∧w'=w:=by
 have hx:=bytes_take p pre.length
 by_cases h2:pre.length≤p.length
 ·have h2':(pre.length:Int)≤(p.length:Int):=by omega
  by_cases h3:p.take pre.length=pre
  ·have h3':(p.take pre.length==pre)=true:=by simpa using h3
   rw [h3'];rw [h3] at hx;go_enter func204,ntmps204;go_wp2;go_ret;exact⟨rfl,rfl⟩
  ·have h3':(p.take pre.length==pre)=false:=by simpa using h3
   rw [h3'];go_enter func204,ntmps204;go_wp2;go_ret;exact⟨rfl,rfl⟩
 ·have h2':¬ (pre.length:Int)≤(p.length:Int):=by omega
  have h3':(p.take pre.length==pre)=false:=by
   rw [beq_eq_false_iff_ne];intro e;have:=congrArg List.length e;simp at this;omega
  rw [h3'];go_enter func204,ntmps204;go_wp2;go_ret;exact⟨rfl,rfl⟩
theorem Tryz.lcutPre (p pre:List UInt8) (w:World) :
  Calls prog 174 #[.string ⟨p.toArray⟩,.string ⟨pre.toArray⟩] w fun e w'=>e=.returned (.tuple (if p.take pre.length==pre then #[.string ⟨(p.drop pre.length).toArray⟩,.bool true] else #[.string ⟨p.toArray⟩,.bool false]))∧w'=w:=by
 have hH:=hasPre p pre w;have hx:=bytes_drop p pre.length
 by_cases h3:(p.take pre.length==pre)=true
 ·have hle:pre.length≤p.length:=by
   have h:=congrArg List.length (eq_of_beq h3);simp at h;omega
  have hle':(pre.length:Int)≤(p.length:Int):=by omega
  rw [h3] at hH;rw [if_pos h3];go_enter func174,ntmps174
  go_wp2_with (go_at_call 204;refine hH.mono ?_;rintro e w1 ⟨rfl,rfl⟩)
  exact bodyPost_ret (v:=.tuple #[.string ⟨(p.drop pre.length).toArray⟩,.bool true]) (by simp [results,results174,go_sem]) rfl ⟨rfl,rfl⟩
 ·rw [Bool.not_eq_true] at h3
  rw [h3] at hH;rw [if_neg (by simp [h3])];go_enter func174,ntmps174
  go_wp2_with (go_at_call 204;refine hH.mono ?_;rintro e w1 ⟨rfl,rfl⟩)
  exact bodyPost_ret (v:=.tuple #[.string ⟨p.toArray⟩,.bool false]) (by simp [results,results174,go_sem]) rfl ⟨rfl,rfl⟩
theorem Tryz.cutPre (p pre:List UInt8) (w:World) :
  Calls prog 142 #[.string ⟨p.toArray⟩,.string ⟨pre.toArray⟩] w fun e w'=>e=.returned (.tuple (if p.take pre.length==pre then #[.string ⟨(p.drop pre.length).toArray⟩,.bool true] else #[.string ⟨p.toArray⟩,.bool false]))∧w'=w:=by
 have hH:=lcutPre p pre w
 by_cases h3:(p.take pre.length==pre)=true
 ·rw [if_pos h3] at hH ⊢
  go_enter func142,ntmps142
  go_wp2_with (go_at_call 174;refine hH.mono ?_;rintro e w1 ⟨rfl,rfl⟩)
  exact bodyPost_ret (v:=.tuple #[.string ⟨(p.drop pre.length).toArray⟩,.bool true]) (by simp [results,results142,go_sem]) rfl ⟨rfl,rfl⟩
 ·rw [if_neg h3] at hH ⊢
  go_enter func142,ntmps142
  go_wp2_with (go_at_call 174;refine hH.mono ?_;rintro e w1 ⟨rfl,rfl⟩)
  exact bodyPost_ret (v:=.tuple #[.string ⟨p.toArray⟩,.bool false]) (by simp [results,results142,go_sem]) rfl ⟨rfl,rfl⟩
theorem Tryz.within (p pre:List UInt8) (w:World) :
  Calls prog 94 #[.string ⟨p.toArray⟩,.string ⟨pre.toArray⟩] w fun e w'=>e=.returned (.bool (beginsB p pre))∧w'=w:=by
 have hH:=cutPre p pre w
 by_cases h3:(p.take pre.length==pre)=true
 ·rw [if_pos h3] at hH
  have hle:pre.length≤p.length:=by
   have h:=congrArg List.length (eq_of_beq h3);simp at h;omega
  by_cases h0:pre = []
  ·subst h0
   rw [show beginsB p []=true from rfl];go_enter func94,ntmps94
   go_wp2_with (go_at_call 142;refine hH.mono ?_;rintro e w1 ⟨rfl,rfl⟩)
   go_ret;exact⟨rfl,rfl⟩
  ·have h0':(pre == [])=false:=by simpa using h0
   have hl0:((pre.length:Int)==0)=false:=by
    rw [beq_eq_false_iff_ne];intro e;exact h0 (List.length_eq_zero_iff.1 (by omega))
   by_cases h1:p=pre
   ·subst h1
    have hb:beginsB p p=true:=by simp [beginsB]
    have hd:p.drop p.length = []:=by simp
    rw [hb];rw [hd] at hH;go_enter func94,ntmps94
    go_wp2_with (go_at_call 142;refine hH.mono ?_;rintro e w1 ⟨rfl,rfl⟩)
    go_ret;exact⟨rfl,rfl⟩
   ·have hlt:pre.length<p.length:=by
     rcases Nat.lt_or_ge pre.length p.length with h | h
     ·exact h
     ·exact absurd (by rw [← eq_of_beq h3,List.take_of_length_le h]) h1
    obtain⟨c,r,hcr⟩:∃ c r,p.drop pre.length=c :: r:=by
     cases hd:p.drop pre.length with
     | nil=>have:=congrArg List.length hd;simp at this;omega
     | cons c r=>exact⟨c,r,rfl⟩
    have hpc:p[pre.length]? = some c:=by
     have:(p.drop pre.length)[0]? = some c:=by rw [hcr];rfl
     simpa using this
    have hb:beginsB p pre=(c==47):=by
     unfold beginsB;rw [hpc,h3];simp [h0,h1,hlt]
    have hck:∀ hp,((⟨(c :: r).toArray⟩:ByteArray)[0]'hp)=c:=fun hp=>rfl
    rw [hcr] at hH
    by_cases h4:c=47
    ·subst h4
     rw [hb];go_enter func94,ntmps94
     go_wp2_with (go_at_call 142;refine hH.mono ?_;rintro e w1 ⟨rfl,rfl⟩)
     all_goals try simp only [hck] at *
     go_ret;exact⟨rfl,rfl⟩
    ·have h4':(c==47)=false:=by simpa using h4
     have h5:((c.toNat:Int)==47)=false:=by
      rw [beq_eq_false_iff_ne];intro e;exact h4 (by apply UInt8.toNat_inj.1;simpa using Int.ofNat_inj.1 e)
     rw [hb,h4'];go_enter func94,ntmps94
     go_wp2_with (go_at_call 142;refine hH.mono ?_;rintro e w1 ⟨rfl,rfl⟩)
     all_goals try simp only [hck] at *
     go_ret;exact⟨rfl,rfl⟩
 ·rw [if_neg h3] at hH
  have hb:beginsB p pre=false:=by
   rw [Bool.not_eq_true] at h3;unfold beginsB;rw [h3]
   have h0:pre ≠ []:=fun e=>by rw [e] at h3;simp at h3
   have h1:p≠pre:=fun e=>by rw [e] at h3;simp at h3
   simp [h0,h1]
  rw [hb];go_enter func94,ntmps94
  go_wp2_with (go_at_call 142;refine hH.mono ?_;rintro e w1 ⟨rfl,rfl⟩)
  go_ret;exact⟨rfl,rfl⟩
theorem Tryz.vRevPre1 (pb:Nat) (pre:List UInt8) (l:LeaE) (w:World) (hP:BoxN w pb 9 #[.string ⟨pre.toArray⟩]) :
  Calls prog 93 #[.agg l.cells,.pointer (some ⟨pb,0,none⟩)] w fun e w'=>e=.returned (.bool (beginsB l.pth pre))∧Below w.heap.size w w':=by
 have hB0:Below w.heap.size w (w.alloc (.cells l.cells 131)):=(Below.refl _ w).alloc (Nat.le_refl _) _;have p0:=(hP.alloc (.cells l.cells 131)).cell 0 (v:=.string ⟨pre.toArray⟩) rfl
 have hW:=fun W=>within l.pth pre W
 obtain⟨n,ak,au,at_,tr,pd,pth,la⟩:=l;simp only [LeaE.cells] at *;go_enter func93,ntmps93
 go_wp2_with (go_at_call 94;refine(hW _).mono ?_;rintro e w1 ⟨rfl,rfl⟩)
 go_ret;exact⟨rfl,hB0⟩
theorem Tryz.vRevTok1 (vb mt ml:Nat) (vx:VX) (tm tn ln:Int) (tks:List TokE) (lks:List LeaE) (bv tb:Nat) (top:Int × Int) (l:LeaE) (w:World) (hV:VaultAt w vb mt ml vx tm tn ln tks lks) (hv:BoxN w bv 76 #[.pointer (some ⟨vb,0,none⟩)]) (ht:BoxN w tb 114 #[.int .i64 top.1,.int .u64 top.2]) (b:Bool) (n:Nat) (hC:ClimbN tks top b n (l.ak,(l.au:Int))) :
  Calls prog 87 #[.agg l.cells,.pointer (some ⟨bv,0,none⟩),.pointer (some ⟨tb,0,none⟩)] w fun e w'=>e=.returned (.bool b)∧Below w.heap.size w w':=by
 have hB0:Below w.heap.size w (w.alloc (.cells l.cells 131)):=(Below.refl _ w).alloc (Nat.le_refl _) _;have p0:=(hv.alloc (.cells l.cells 131)).cell 0 (v:=.pointer (some ⟨vb,0,none⟩)) rfl;have q0:=(ht.alloc (.cells l.cells 131)).cell 0 (v:=.int .i64 top.1) rfl;have q1:=(ht.alloc (.cells l.cells 131)).cell 1 (v:=.int .u64 top.2) rfl;have hW:=isWithin vb mt ml vx tm tn ln tks lks _ (hV.below hB0) (l.ak,(l.au:Int)) top n b hC;obtain⟨ln',ak,au,at_,tr,pd,pth,la⟩:=l;simp only [LeaE.cells,nmV] at *;go_enter func87,ntmps87
 go_wp2_with (go_at_call 88;refine hW.mono ?_;rintro e w1 ⟨rfl,hb1⟩)
 go_ret;exact⟨rfl,hB0.trans (hb1.mono hB0.size)⟩
end Go.Proofs
