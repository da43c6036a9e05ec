import Derived.Test.YtjbekgjdempbiaaGreatDoorJTkE
/-
  The code: queueToken.
-/
namespace Go.Proofs
open Go.RowKit Go.Sort Go.Lib Go.Shelf Go.Maps



abbrev Tryz.QtP (vb tb nb : Nat) (tm at_ k u : Int) (pd : Bool) (W : World) : Prop := W.cell? ⟨vb, 2, none⟩ = some (.int .u64 tm) ∧ W.cell? ⟨tb, 2, none⟩ = some (.int .u64 at_) ∧ W.cell? ⟨tb, 4, none⟩ = some (.bool pd) ∧ W.cell? ⟨nb, 0, none⟩ = some (.int .i64 k) ∧ W.cell? ⟨nb, 1, none⟩ = some (.int .u64 u)
theorem Tryz.QtP.below {vb tb nb : Nat} {tm at_ k u : Int} {pd : Bool} {W W' : World} (h : Tryz.QtP vb tb nb tm at_ k u pd W) (hb : Below W.heap.size W W') : Tryz.QtP vb tb nb tm at_ k u pd W' := ⟨cell_later hb h.1, cell_later hb h.2.1, cell_later hb h.2.2.1, cell_later hb h.2.2.2.1, cell_later hb h.2.2.2.2⟩

set_option maxRecDepth 100000 in
set_option maxHeartbeats 2000000 in
theorem Tryz.queueTok_any (B vb mt ml : Nat) (vx : VX) (tm tn ln : Int) (tks : List TokE) (lks : List LeaE) (w : World) (hV : Tryz.VaultAt w vb mt ml vx tm tn ln tks lks) (x : Int × Int) (ak au at_ tr : Int) (pd : Bool) (hP : ∀ W, Below w.heap.size w W → (Instr.lookup 120 (.map (some mt)) (nmV x) false).run Tryz.prog W = .ok (.agg #[.int .i64 ak, .int .u64 au, .int .u64 at_, .int .i64 tr, .bool pd]) W)
    (q : List TurnD) (hrow : w.ownsRow B 144 3 vx.due q.length (flatQ q)) (hH : Heap q) (hB : B ≤ w.heap.size) (hn : q.length ≤ 100) (go : Bool) (hgo : go = (pd && decide (at_ ≤ tm) && !(tks.any (fun t => t.ak == x.1 && (t.au : Int) == x.2) || lks.any (fun t => t.ak == x.1 && (t.au : Int) == x.2)))) :
    Calls Tryz.prog 130 #[.pointer (some ⟨vb, 0, none⟩), nmV x] w fun e w' => e = .returned (.tuple #[]) ∧ (go = false → Below w.heap.size w w') ∧ (go = true → ∃ g cap ys, Tryz.QV B vb (Tryz.vaultC vx tm mt ml tn ln) g cap ys w' ∧ Heap ys ∧ ys.Perm (q ++ [⟨at_, x.1, x.2⟩]) ∧ (vx.due.ownBlock = some g ∨ w.heap.size ≤ g) ∧ Spares (vb :: vx.due.ownBlock.toList) w w') := by
  have hB0 : Below w.heap.size w (w.alloc (.cells #[.int .i64 x.1, .int .u64 x.2] 114)) := (Below.refl _ w).alloc (Nat.le_refl _) _
  have bN := BoxN.new w 114 #[.int .i64 x.1, .int .u64 x.2]
  have hs0 : (w.alloc (.cells #[.int .i64 x.1, .int .u64 x.2] 114)).heap.size = w.heap.size + 1 := by simp
  unfold nmV at *
  go_enter Tryz.func130, Tryz.ntmps130
  go_wp2_with fail
  generalize (w.alloc (.cells #[.int .i64 x.1, .int .u64 x.2] 114)) = W1 at *
  have hS : ∀ W, Below (w.heap.size + 1) W1 W → Tryz.LkP1 vb 3 mt w.heap.size 120 x.1 x.2 (.agg #[.int .i64 ak, .int .u64 au, .int .u64 at_, .int .i64 tr, .bool pd]) W := fun W hb => by
    have bN' := bN.below hb (by omega)
    have hB := hB0.trans (hb.mono (by omega))
    exact ⟨(hV.below hB).v.cell 3 rfl, bN'.cell 0 rfl, bN'.cell 1 rfl, hP W hB⟩
  have hb1 : Below (w.heap.size + 1) W1 W1.drew := (Below.refl _ _).drew
  refine wp_region_held_drew (S := (Tryz.LkP1 vb 3 mt w.heap.size 120 x.1 x.2 (.agg #[.int .i64 ak, .int .u64 au, .int .u64 at_, .int .i64 tr, .bool pd]))) (by kernel_rfl) (hS _ hb1) (fun hS0 => ?_)
  refine wpAnyH_take (i := 0) (v := ?vk0) rfl (by kernel_rfl) (by kernel_rfl) (by kernel_rfl) (fun _ _ _ h => h) (Or.inl ⟨by kernel_rfl, ?yk0⟩) hS0 ?_
  case yk0 => (intro w hSw; obtain ⟨q0, q1, q2, q3⟩ := hSw; go_simp; try with_reducible rfl)
  refine wpAnyH_take (i := 1) (v := ?vk1) rfl (by kernel_rfl) (by kernel_rfl) (by kernel_rfl) (fun _ _ _ h => h) (Or.inl ⟨by kernel_rfl, ?yk1⟩) hS0 ?_
  case yk1 => (intro w hSw; obtain ⟨q0, q1, q2, q3⟩ := hSw; go_simp; try with_reducible rfl)
  refine wpAnyH_take (i := 2) (v := ?vk2) rfl (by kernel_rfl) (by kernel_rfl) (by kernel_rfl) (fun _ _ _ h => h) (Or.inl ⟨by kernel_rfl, ?yk2⟩) hS0 ?_
  case yk2 => (intro w hSw; obtain ⟨q0, q1, q2, q3⟩ := hSw; go_simp; try with_reducible rfl)
  refine wpAnyH_take (i := 3) (v := ?vk3) rfl (by kernel_rfl) (by kernel_rfl) (by kernel_rfl) (fun _ _ _ h => h) (Or.inl ⟨by kernel_rfl, ?yk3⟩) hS0 ?_
  case yk3 => (intro w hSw; obtain ⟨q0, q1, q2, q3⟩ := hSw; go_simp; try with_reducible rfl)
  refine wpAnyH_take (i := 4) (v := ?vk4) rfl (by kernel_rfl) (by kernel_rfl) (by kernel_rfl) (fun _ _ _ h => h) (Or.inl ⟨by kernel_rfl, ?yk4⟩) hS0 ?_
  case yk4 => (intro w hSw; obtain ⟨q0, q1, q2, q3⟩ := hSw; go_simp; try with_reducible rfl)
  refine wpAnyH_take (i := 5) (v := ?vk5) rfl (by kernel_rfl) (by kernel_rfl) (by kernel_rfl) (fun _ _ _ h => h) (Or.inl ⟨by kernel_rfl, ?yk5⟩) hS0 ?_
  case yk5 => (intro w hSw; obtain ⟨q0, q1, q2, q3⟩ := hSw; go_simp; try with_reducible rfl)
  refine wpAnyH_ready (rs := [6]) (by kernel_rfl) (by simp) ?_
  refine AllReadyH.cons rfl (fun K hK => ?_) AllReadyH.nil
  go_simp
  refine hK.out _ _ (hS _ (hb1.alloc (by simp [hs0]) _)) (fun hS1 => ?_)
  clear hK K
  refine wpAnyH_ready (rs := [7]) (by kernel_rfl) (by simp) ?_
  refine AllReadyH.cons rfl (fun K hK => ?_) AllReadyH.nil
  go_simp
  have hb2 : Below (w.heap.size + 1) W1 (W1.alloc (.cells #[.int .i64 ak, .int .u64 au, .int .u64 at_, .int .i64 tr, .bool pd] 153)).drew := ((Below.refl _ _).alloc (by omega) _).drew
  refine hK.out _ _ (hS _ hb2) (fun hS2 => ?_)
  clear hK K hS0 hS1 hS2
  refine wpAnyH_done (by kernel_rfl) ?_ _
  have bT : BoxN (W1.alloc (.cells #[.int .i64 ak, .int .u64 au, .int .u64 at_, .int .i64 tr, .bool pd] 153)).drew (w.heap.size + 1) 153 #[.int .i64 ak, .int .u64 au, .int .u64 at_, .int .i64 tr, .bool pd] := by
    have h := BoxN.new W1 153 #[.int .i64 ak, .int .u64 au, .int .u64 at_, .int .i64 tr, .bool pd]
    rw [hs0] at h
    exact h
  have bN2 := bN.below hb2 (by omega)
  have hBf := hB0.trans (hb2.mono (by omega))
  clear hS hP hb1 hb2 hB0 bN hs0
  generalize (W1.alloc (.cells #[.int .i64 ak, .int .u64 au, .int .u64 at_, .int .i64 tr, .bool pd] 153)).drew = W2 at *
  have hV2 := hV.below hBf
  have hQ2 : Tryz.QtP vb (w.heap.size + 1) w.heap.size tm at_ x.1 x.2 pd W2.drew := ⟨hV2.v.cell 2 rfl, bT.cell 2 rfl, bT.cell 4 rfl, bN2.cell 0 rfl, bN2.cell 1 rfl⟩
  have hL := Tryz.entryLive (w.heap.size + 1) pd W2.drew (bT.cell 4 rfl)
  have hHB := Tryz.hasBelow vb mt ml vx tm tn ln tks lks W2.drew (hV2.below (Below.refl _ W2).drew) x.1 x.2
  unfold nmV at hHB
  generalize (tks.any (fun t => t.ak == x.1 && (t.au : Int) == x.2) || lks.any (fun t => t.ak == x.1 && (t.au : Int) == x.2)) = hb at *
  go_wp2_with fail
  cases pd
  · subst hgo
    refine wp_region_held_drew (S := Tryz.QtP vb (w.heap.size + 1) w.heap.size tm at_ x.1 x.2 false) (by kernel_rfl) hQ2 (fun hS0 => ?_)
    refine wpAnyH_take (i := 0) (v := ?av0) rfl (by kernel_rfl) (by kernel_rfl) (by kernel_rfl) (fun _ _ _ h => h) (Or.inl ⟨by kernel_rfl, ?ay0⟩) hS0 ?_
    case ay0 => (intro w hSw; obtain ⟨q0, q1, q2, q3, q4⟩ := hSw; go_simp; try with_reducible rfl)
    refine wpAnyH_ready (rs := [1]) (by kernel_rfl) (by simp) ?_
    refine AllReadyH.cons rfl (fun K hK => ?_) AllReadyH.nil
    go_simp
    refine hL.mono ?_
    rintro e w5 ⟨rfl, rfl⟩
    refine hK.out _ _ hQ2 (fun hS1 => ?_)
    clear hK K
    refine wpAnyH_take (i := 2) (v := ?av2) rfl (by kernel_rfl) (by kernel_rfl) (by kernel_rfl) (fun _ _ _ h => h) (Or.inl ⟨by kernel_rfl, ?ay2⟩) hS1 ?_
    case ay2 => (intro w hSw; obtain ⟨q0, q1, q2, q3, q4⟩ := hSw; go_simp; try with_reducible rfl)
    refine wpAnyH_take (i := 3) (v := ?av3) rfl (by kernel_rfl) (by kernel_rfl) (by kernel_rfl) (fun _ _ _ h => h) (Or.inl ⟨by kernel_rfl, ?ay3⟩) hS1 ?_
    case ay3 => (intro w hSw; obtain ⟨q0, q1, q2, q3, q4⟩ := hSw; go_simp; try with_reducible rfl)
    refine wpAnyH_take (i := 4) (v := undef) rfl (by kernel_rfl) (by kernel_rfl) (by kernel_rfl) (fun _ _ _ h => h) (Or.inr ⟨by kernel_rfl, rfl⟩) hS1 ?_
    refine wpAnyH_take (i := 5) (v := undef) rfl (by kernel_rfl) (by kernel_rfl) (by kernel_rfl) (fun _ _ _ h => h) (Or.inr ⟨by kernel_rfl, rfl⟩) hS1 ?_
    refine wpAnyH_take (i := 6) (v := undef) rfl (by kernel_rfl) (by kernel_rfl) (by kernel_rfl) (fun _ _ _ h => h) (Or.inr ⟨by kernel_rfl, rfl⟩) hS1 ?_
    refine wpAnyH_take (i := 7) (v := undef) rfl (by kernel_rfl) (by kernel_rfl) (by kernel_rfl) (fun _ _ _ h => h) (Or.inr ⟨by kernel_rfl, rfl⟩) hS1 ?_
    refine wpAnyH_take (i := 8) (v := undef) rfl (by kernel_rfl) (by kernel_rfl) (by kernel_rfl) (fun _ _ _ h => h) (Or.inr ⟨by kernel_rfl, rfl⟩) hS1 ?_
    refine wpAnyH_take (i := 9) (v := undef) rfl (by kernel_rfl) (by kernel_rfl) (by kernel_rfl) (fun _ _ _ h => h) (Or.inr ⟨by kernel_rfl, rfl⟩) hS1 ?_
    refine wpAnyH_take (i := 10) (v := undef) rfl (by kernel_rfl) (by kernel_rfl) (by kernel_rfl) (fun _ _ _ h => h) (Or.inr ⟨by kernel_rfl, rfl⟩) hS1 ?_
    refine wpAnyH_take (i := 11) (v := undef) rfl (by kernel_rfl) (by kernel_rfl) (by kernel_rfl) (fun _ _ _ h => h) (Or.inr ⟨by kernel_rfl, rfl⟩) hS1 ?_
    refine wpAnyH_take (i := 12) (v := ?av12) rfl (by kernel_rfl) (by kernel_rfl) (by kernel_rfl) (fun _ _ _ h => h) (Or.inl ⟨by kernel_rfl, ?ay12⟩) hS1 ?_
    case ay12 => (intro w hSw; obtain ⟨q0, q1, q2, q3, q4⟩ := hSw; go_simp; try with_reducible rfl)
    refine wpAnyH_take (i := 13) (v := ?av13) rfl (by kernel_rfl) (by kernel_rfl) (by kernel_rfl) (fun _ _ _ h => h) (Or.inl ⟨by kernel_rfl, ?ay13⟩) hS1 ?_
    case ay13 => (intro w hSw; obtain ⟨q0, q1, q2, q3, q4⟩ := hSw; go_simp; try with_reducible rfl)
    refine wpAnyH_take (i := 14) (v := undef) rfl (by kernel_rfl) (by kernel_rfl) (by kernel_rfl) (fun _ _ _ h => h) (Or.inr ⟨by kernel_rfl, rfl⟩) hS1 ?_
    refine wpAnyH_take (i := 15) (v := undef) rfl (by kernel_rfl) (by kernel_rfl) (by kernel_rfl) (fun _ _ _ h => h) (Or.inr ⟨by kernel_rfl, rfl⟩) hS1 ?_
    refine wpAnyH_take (i := 16) (v := undef) rfl (by kernel_rfl) (by kernel_rfl) (by kernel_rfl) (fun _ _ _ h => h) (Or.inr ⟨by kernel_rfl, rfl⟩) hS1 ?_
    refine wpAnyH_take (i := 17) (v := undef) rfl (by kernel_rfl) (by kernel_rfl) (by kernel_rfl) (fun _ _ _ h => h) (Or.inr ⟨by kernel_rfl, rfl⟩) hS1 ?_
    refine wpAnyH_take (i := 18) (v := ?av18) rfl (by kernel_rfl) (by kernel_rfl) (by kernel_rfl) (fun _ _ _ h => h) (Or.inl ⟨by kernel_rfl, ?ay18⟩) hS1 ?_
    case ay18 => (intro w hSw; obtain ⟨q0, q1, q2, q3, q4⟩ := hSw; go_simp; try with_reducible rfl)
    refine wpAnyH_done (by kernel_rfl) ?_ _
    go_simp
    go_wp2
    go_end0
    first
      | exact ⟨rfl, fun _ => hBf.drew, fun h => by simp at h⟩
      | exact ⟨rfl, hBf.drew⟩
  by_cases hat : at_ ≤ tm
  · cases hb
    · have hgo2 : go = true := by simp [hgo, hat]
      clear hgo
      subst hgo2
      refine wp_region_held_drew (S := Tryz.QtP vb (w.heap.size + 1) w.heap.size tm at_ x.1 x.2 true) (by kernel_rfl) hQ2 (fun hS0 => ?_)
      refine wpAnyH_take (i := 0) (v := ?cv0) rfl (by kernel_rfl) (by kernel_rfl) (by kernel_rfl) (fun _ _ _ h => h) (Or.inl ⟨by kernel_rfl, ?cy0⟩) hS0 ?_
      case cy0 => (intro w hSw; obtain ⟨q0, q1, q2, q3, q4⟩ := hSw; go_simp; try with_reducible rfl)
      refine wpAnyH_ready (rs := [1]) (by kernel_rfl) (by simp) ?_
      refine AllReadyH.cons rfl (fun K hK => ?_) AllReadyH.nil
      go_simp
      refine hL.mono ?_
      rintro e w5 ⟨rfl, rfl⟩
      refine hK.out _ _ hQ2 (fun hS1 => ?_)
      clear hK K
      refine wpAnyH_take (i := 2) (v := ?cv2) rfl (by kernel_rfl) (by kernel_rfl) (by kernel_rfl) (fun _ _ _ h => h) (Or.inl ⟨by kernel_rfl, ?cy2⟩) hS1 ?_
      case cy2 => (intro w hSw; obtain ⟨q0, q1, q2, q3, q4⟩ := hSw; go_simp; try with_reducible rfl)
      refine wpAnyH_take (i := 3) (v := ?cv3) rfl (by kernel_rfl) (by kernel_rfl) (by kernel_rfl) (fun _ _ _ h => h) (Or.inl ⟨by kernel_rfl, ?cy3⟩) hS1 ?_
      case cy3 => (intro w hSw; obtain ⟨q0, q1, q2, q3, q4⟩ := hSw; go_simp; try with_reducible rfl)
      refine wpAnyH_take (i := 4) (v := ?cv4) rfl (by kernel_rfl) (by kernel_rfl) (by kernel_rfl) (fun _ _ _ h => h) (Or.inl ⟨by kernel_rfl, ?cy4⟩) hS1 ?_
      case cy4 => (intro w hSw; obtain ⟨q0, q1, q2, q3, q4⟩ := hSw; go_simp; try with_reducible rfl)
      refine wpAnyH_take (i := 5) (v := ?cv5) rfl (by kernel_rfl) (by kernel_rfl) (by kernel_rfl) (fun _ _ _ h => h) (Or.inl ⟨by kernel_rfl, ?cy5⟩) hS1 ?_
      case cy5 => (intro w hSw; obtain ⟨q0, q1, q2, q3, q4⟩ := hSw; go_simp; try with_reducible rfl)
      refine wpAnyH_take (i := 6) (v := ?cv6) rfl (by kernel_rfl) (by kernel_rfl) (by kernel_rfl) (fun _ _ _ h => h) (Or.inl ⟨by kernel_rfl, ?cy6⟩) hS1 ?_
      case cy6 => (intro w hSw; obtain ⟨q0, q1, q2, q3, q4⟩ := hSw; go_simp; try with_reducible rfl)
      refine wpAnyH_take (i := 7) (v := ?cv7) rfl (by kernel_rfl) (by kernel_rfl) (by kernel_rfl) (fun _ _ _ h => h) (Or.inl ⟨by kernel_rfl, ?cy7⟩) hS1 ?_
      case cy7 => (intro w hSw; obtain ⟨q0, q1, q2, q3, q4⟩ := hSw; go_simp; try with_reducible rfl)
      refine wpAnyH_take (i := 8) (v := ?cv8) rfl (by kernel_rfl) (by kernel_rfl) (by kernel_rfl) (fun _ _ _ h => h) (Or.inl ⟨by kernel_rfl, ?cy8⟩) hS1 ?_
      case cy8 => (intro w hSw; obtain ⟨q0, q1, q2, q3, q4⟩ := hSw; go_simp; try with_reducible rfl)
      refine wpAnyH_take (i := 9) (v := ?cv9) rfl (by kernel_rfl) (by kernel_rfl) (by kernel_rfl) (fun _ _ _ h => h) (Or.inl ⟨by kernel_rfl, ?cy9⟩) hS1 ?_
      case cy9 => (intro w hSw; obtain ⟨q0, q1, q2, q3, q4⟩ := hSw; go_simp; try with_reducible rfl)
      refine wpAnyH_take (i := 10) (v := ?cv10) rfl (by kernel_rfl) (by kernel_rfl) (by kernel_rfl) (fun _ _ _ h => h) (Or.inl ⟨by kernel_rfl, ?cy10⟩) hS1 ?_
      case cy10 => (intro w hSw; obtain ⟨q0, q1, q2, q3, q4⟩ := hSw; go_simp; try with_reducible rfl)
      refine wpAnyH_take (i := 11) (v := ?cv11) rfl (by kernel_rfl) (by kernel_rfl) (by kernel_rfl) (fun _ _ _ h => h) (Or.inl ⟨by kernel_rfl, ?cy11⟩) hS1 ?_
      case cy11 => (intro w hSw; obtain ⟨q0, q1, q2, q3, q4⟩ := hSw; go_simp; try with_reducible rfl)
      refine wpAnyH_take (i := 12) (v := ?cv12) rfl (by kernel_rfl) (by kernel_rfl) (by kernel_rfl) (fun _ _ _ h => h) (Or.inl ⟨by kernel_rfl, ?cy12⟩) hS1 ?_
      case cy12 => (intro w hSw; obtain ⟨q0, q1, q2, q3, q4⟩ := hSw; go_simp; try with_reducible rfl)
      refine wpAnyH_take (i := 13) (v := ?cv13) rfl (by kernel_rfl) (by kernel_rfl) (by kernel_rfl) (fun _ _ _ h => h) (Or.inl ⟨by kernel_rfl, ?cy13⟩) hS1 ?_
      case cy13 => (intro w hSw; obtain ⟨q0, q1, q2, q3, q4⟩ := hSw; go_simp; try with_reducible rfl)
      refine wpAnyH_take (i := 14) (v := ?cv14) rfl (by kernel_rfl) (by kernel_rfl) (by kernel_rfl) (fun _ _ _ h => h) (Or.inl ⟨by kernel_rfl, ?cy14⟩) hS1 ?_
      case cy14 => (intro w hSw; obtain ⟨q0, q1, q2, q3, q4⟩ := hSw; go_simp; try with_reducible rfl)
      refine wpAnyH_take (i := 15) (v := ?cv15) rfl (by kernel_rfl) (by kernel_rfl) (by kernel_rfl) (fun _ _ _ h => h) (Or.inl ⟨by kernel_rfl, ?cy15⟩) hS1 ?_
      case cy15 => (intro w hSw; obtain ⟨q0, q1, q2, q3, q4⟩ := hSw; go_simp; try with_reducible rfl)
      refine wpAnyH_ready (rs := [16]) (by kernel_rfl) (by simp) ?_
      refine AllReadyH.cons rfl (fun K hK => ?_) AllReadyH.nil
      go_simp
      refine hHB.mono ?_
      rintro e w6 ⟨rfl, hb6⟩
      have hQ6 := Tryz.QtP.below hQ2 hb6
      refine hK.out _ _ hQ6 (fun hS2 => ?_)
      clear hK K
      refine wpAnyH_take (i := 17) (v := ?cv17) rfl (by kernel_rfl) (by kernel_rfl) (by kernel_rfl) (fun _ _ _ h => h) (Or.inl ⟨by kernel_rfl, ?cy17⟩) hS2 ?_
      case cy17 => (intro w hSw; obtain ⟨q0, q1, q2, q3, q4⟩ := hSw; go_simp; try with_reducible rfl)
      refine wpAnyH_take (i := 18) (v := ?cv18) rfl (by kernel_rfl) (by kernel_rfl) (by kernel_rfl) (fun _ _ _ h => h) (Or.inl ⟨by kernel_rfl, ?cy18⟩) hS2 ?_
      case cy18 => (intro w hSw; obtain ⟨q0, q1, q2, q3, q4⟩ := hSw; go_simp; try with_reducible rfl)
      refine wpAnyH_done (by kernel_rfl) ?_ _
      go_simp
      have hBf6 : Below w.heap.size w w6 := hBf.drew.trans (hb6.mono hBf.drew.size)
      clear hS0 hS1 hS2 hQ2 hb6 hHB hL
      have hPu := fun W (hb : Below w.heap.size w W) => Tryz.qPush B vb vx.due q.length q (Tryz.vaultC vx tm mt ml tn ln) ⟨at_, x.1, x.2⟩ W (hV.below hb).v rfl (ownsRow_below hrow hb) hH (Nat.le_trans hB hb.size) hn
      simp only [TurnD.cells] at hPu
      have hB6d := hBf6.drew
      have hQ6d : Tryz.QtP vb (w.heap.size + 1) w.heap.size tm at_ x.1 x.2 true w6.drew := hQ6
      have hPu6 := hPu w6.drew hB6d
      have l1 : w.heap.size + 1 < w6.drew.heap.size := World.block_lt_of_cell? _ _ hQ6d.2.1
      have l0 : w.heap.size < w6.drew.heap.size := World.block_lt_of_cell? _ _ hQ6d.2.2.2.1
      have lv := hV.v.lt
      have hdl : ∀ b ∈ vx.due.ownBlock.toList, b < w.heap.size := fun b hb => (hrow.lt b (by simpa using hb)).2
      have hn1 : w.heap.size + 1 ∉ vb :: vx.due.ownBlock.toList := fun hm => by
        rcases List.mem_cons.1 hm with e | hm
        · omega
        · have := hdl _ hm; omega
      have hn0 : w.heap.size ∉ vb :: vx.due.ownBlock.toList := fun hm => by
        rcases List.mem_cons.1 hm with e | hm
        · omega
        · have := hdl _ hm; omega
      go_wp2_with fail
      go_region_held3 (Tryz.QtP vb (w.heap.size + 1) w.heap.size tm at_ x.1 x.2 true) (first
        | with_reducible exact hQ6d
        | with_reducible exact hQ7
        | with_reducible assumption) (first
        | (go_at_call 131; refine hPu6.mono ?_; rintro e w7 ⟨rfl, g, cap, ys, hqv, hhp, hpm, hwg, hsp⟩; have hQ7 : Tryz.QtP vb (w.heap.size + 1) w.heap.size tm at_ x.1 x.2 true w7 := ⟨hqv.v.cell 2 rfl, (cell_of_block (hsp.block _ l1 hn1) _).1.trans hQ6d.2.1, (cell_of_block (hsp.block _ l1 hn1) _).1.trans hQ6d.2.2.1, (cell_of_block (hsp.block _ l0 hn0) _).1.trans hQ6d.2.2.2.1, (cell_of_block (hsp.block _ l0 hn0) _).1.trans hQ6d.2.2.2.2⟩))
      all_goals
        go_wp2
        go_end0
        refine ⟨rfl, g, cap, ys, hqv, hhp, hpm, ?_, (Spares.of_below hB6d).trans hsp⟩
        rcases hwg with h | h
        · exact .inl h
        · exact .inr (Nat.le_trans hB6d.size h)
    · have hgo2 : go = false := by simp [hgo]
      clear hgo
      subst hgo2
      refine wp_region_held_drew (S := Tryz.QtP vb (w.heap.size + 1) w.heap.size tm at_ x.1 x.2 true) (by kernel_rfl) hQ2 (fun hS0 => ?_)
      refine wpAnyH_take (i := 0) (v := ?dv0) rfl (by kernel_rfl) (by kernel_rfl) (by kernel_rfl) (fun _ _ _ h => h) (Or.inl ⟨by kernel_rfl, ?dy0⟩) hS0 ?_
      case dy0 => (intro w hSw; obtain ⟨q0, q1, q2, q3, q4⟩ := hSw; go_simp; try with_reducible rfl)
      refine wpAnyH_ready (rs := [1]) (by kernel_rfl) (by simp) ?_
      refine AllReadyH.cons rfl (fun K hK => ?_) AllReadyH.nil
      go_simp
      refine hL.mono ?_
      rintro e w5 ⟨rfl, rfl⟩
      refine hK.out _ _ hQ2 (fun hS1 => ?_)
      clear hK K
      refine wpAnyH_take (i := 2) (v := ?dv2) rfl (by kernel_rfl) (by kernel_rfl) (by kernel_rfl) (fun _ _ _ h => h) (Or.inl ⟨by kernel_rfl, ?dy2⟩) hS1 ?_
      case dy2 => (intro w hSw; obtain ⟨q0, q1, q2, q3, q4⟩ := hSw; go_simp; try with_reducible rfl)
      refine wpAnyH_take (i := 3) (v := ?dv3) rfl (by kernel_rfl) (by kernel_rfl) (by kernel_rfl) (fun _ _ _ h => h) (Or.inl ⟨by kernel_rfl, ?dy3⟩) hS1 ?_
      case dy3 => (intro w hSw; obtain ⟨q0, q1, q2, q3, q4⟩ := hSw; go_simp; try with_reducible rfl)
      refine wpAnyH_take (i := 4) (v := ?dv4) rfl (by kernel_rfl) (by kernel_rfl) (by kernel_rfl) (fun _ _ _ h => h) (Or.inl ⟨by kernel_rfl, ?dy4⟩) hS1 ?_
      case dy4 => (intro w hSw; obtain ⟨q0, q1, q2, q3, q4⟩ := hSw; go_simp; try with_reducible rfl)
      refine wpAnyH_take (i := 5) (v := ?dv5) rfl (by kernel_rfl) (by kernel_rfl) (by kernel_rfl) (fun _ _ _ h => h) (Or.inl ⟨by kernel_rfl, ?dy5⟩) hS1 ?_
      case dy5 => (intro w hSw; obtain ⟨q0, q1, q2, q3, q4⟩ := hSw; go_simp; try with_reducible rfl)
      refine wpAnyH_take (i := 6) (v := ?dv6) rfl (by kernel_rfl) (by kernel_rfl) (by kernel_rfl) (fun _ _ _ h => h) (Or.inl ⟨by kernel_rfl, ?dy6⟩) hS1 ?_
      case dy6 => (intro w hSw; obtain ⟨q0, q1, q2, q3, q4⟩ := hSw; go_simp; try with_reducible rfl)
      refine wpAnyH_take (i := 7) (v := ?dv7) rfl (by kernel_rfl) (by kernel_rfl) (by kernel_rfl) (fun _ _ _ h => h) (Or.inl ⟨by kernel_rfl, ?dy7⟩) hS1 ?_
      case dy7 => (intro w hSw; obtain ⟨q0, q1, q2, q3, q4⟩ := hSw; go_simp; try with_reducible rfl)
      refine wpAnyH_take (i := 8) (v := ?dv8) rfl (by kernel_rfl) (by kernel_rfl) (by kernel_rfl) (fun _ _ _ h => h) (Or.inl ⟨by kernel_rfl, ?dy8⟩) hS1 ?_
      case dy8 => (intro w hSw; obtain ⟨q0, q1, q2, q3, q4⟩ := hSw; go_simp; try with_reducible rfl)
      refine wpAnyH_take (i := 9) (v := ?dv9) rfl (by kernel_rfl) (by kernel_rfl) (by kernel_rfl) (fun _ _ _ h => h) (Or.inl ⟨by kernel_rfl, ?dy9⟩) hS1 ?_
      case dy9 => (intro w hSw; obtain ⟨q0, q1, q2, q3, q4⟩ := hSw; go_simp; try with_reducible rfl)
      refine wpAnyH_take (i := 10) (v := ?dv10) rfl (by kernel_rfl) (by kernel_rfl) (by kernel_rfl) (fun _ _ _ h => h) (Or.inl ⟨by kernel_rfl, ?dy10⟩) hS1 ?_
      case dy10 => (intro w hSw; obtain ⟨q0, q1, q2, q3, q4⟩ := hSw; go_simp; try with_reducible rfl)
      refine wpAnyH_take (i := 11) (v := ?dv11) rfl (by kernel_rfl) (by kernel_rfl) (by kernel_rfl) (fun _ _ _ h => h) (Or.inl ⟨by kernel_rfl, ?dy11⟩) hS1 ?_
      case dy11 => (intro w hSw; obtain ⟨q0, q1, q2, q3, q4⟩ := hSw; go_simp; try with_reducible rfl)
      refine wpAnyH_take (i := 12) (v := ?dv12) rfl (by kernel_rfl) (by kernel_rfl) (by kernel_rfl) (fun _ _ _ h => h) (Or.inl ⟨by kernel_rfl, ?dy12⟩) hS1 ?_
      case dy12 => (intro w hSw; obtain ⟨q0, q1, q2, q3, q4⟩ := hSw; go_simp; try with_reducible rfl)
      refine wpAnyH_take (i := 13) (v := ?dv13) rfl (by kernel_rfl) (by kernel_rfl) (by kernel_rfl) (fun _ _ _ h => h) (Or.inl ⟨by kernel_rfl, ?dy13⟩) hS1 ?_
      case dy13 => (intro w hSw; obtain ⟨q0, q1, q2, q3, q4⟩ := hSw; go_simp; try with_reducible rfl)
      refine wpAnyH_take (i := 14) (v := ?dv14) rfl (by kernel_rfl) (by kernel_rfl) (by kernel_rfl) (fun _ _ _ h => h) (Or.inl ⟨by kernel_rfl, ?dy14⟩) hS1 ?_
      case dy14 => (intro w hSw; obtain ⟨q0, q1, q2, q3, q4⟩ := hSw; go_simp; try with_reducible rfl)
      refine wpAnyH_take (i := 15) (v := ?dv15) rfl (by kernel_rfl) (by kernel_rfl) (by kernel_rfl) (fun _ _ _ h => h) (Or.inl ⟨by kernel_rfl, ?dy15⟩) hS1 ?_
      case dy15 => (intro w hSw; obtain ⟨q0, q1, q2, q3, q4⟩ := hSw; go_simp; try with_reducible rfl)
      refine wpAnyH_ready (rs := [16]) (by kernel_rfl) (by simp) ?_
      refine AllReadyH.cons rfl (fun K hK => ?_) AllReadyH.nil
      go_simp
      refine hHB.mono ?_
      rintro e w6 ⟨rfl, hb6⟩
      have hQ6 := Tryz.QtP.below hQ2 hb6
      refine hK.out _ _ hQ6 (fun hS2 => ?_)
      clear hK K
      refine wpAnyH_take (i := 17) (v := ?dv17) rfl (by kernel_rfl) (by kernel_rfl) (by kernel_rfl) (fun _ _ _ h => h) (Or.inl ⟨by kernel_rfl, ?dy17⟩) hS2 ?_
      case dy17 => (intro w hSw; obtain ⟨q0, q1, q2, q3, q4⟩ := hSw; go_simp; try with_reducible rfl)
      refine wpAnyH_take (i := 18) (v := ?dv18) rfl (by kernel_rfl) (by kernel_rfl) (by kernel_rfl) (fun _ _ _ h => h) (Or.inl ⟨by kernel_rfl, ?dy18⟩) hS2 ?_
      case dy18 => (intro w hSw; obtain ⟨q0, q1, q2, q3, q4⟩ := hSw; go_simp; try with_reducible rfl)
      refine wpAnyH_done (by kernel_rfl) ?_ _
      go_simp
      have hBf6 : Below w.heap.size w w6 := hBf.drew.trans (hb6.mono hBf.drew.size)
      clear hS0 hS1 hS2 hQ2 hb6 hHB hL
      go_wp2
      go_end0
      first
        | exact ⟨rfl, fun _ => hBf6, fun h => by simp at h⟩
        | exact ⟨rfl, hBf6⟩
  · have hgo2 : go = false := by simp [hgo, hat]
    clear hgo
    subst hgo2
    refine wp_region_held_drew (S := Tryz.QtP vb (w.heap.size + 1) w.heap.size tm at_ x.1 x.2 true) (by kernel_rfl) hQ2 (fun hS0 => ?_)
    refine wpAnyH_take (i := 0) (v := ?bv0) rfl (by kernel_rfl) (by kernel_rfl) (by kernel_rfl) (fun _ _ _ h => h) (Or.inl ⟨by kernel_rfl, ?by0⟩) hS0 ?_
    case by0 => (intro w hSw; obtain ⟨q0, q1, q2, q3, q4⟩ := hSw; go_simp; try with_reducible rfl)
    refine wpAnyH_ready (rs := [1]) (by kernel_rfl) (by simp) ?_
    refine AllReadyH.cons rfl (fun K hK => ?_) AllReadyH.nil
    go_simp
    refine hL.mono ?_
    rintro e w5 ⟨rfl, rfl⟩
    refine hK.out _ _ hQ2 (fun hS1 => ?_)
    clear hK K
    refine wpAnyH_take (i := 2) (v := ?bv2) rfl (by kernel_rfl) (by kernel_rfl) (by kernel_rfl) (fun _ _ _ h => h) (Or.inl ⟨by kernel_rfl, ?by2⟩) hS1 ?_
    case by2 => (intro w hSw; obtain ⟨q0, q1, q2, q3, q4⟩ := hSw; go_simp; try with_reducible rfl)
    refine wpAnyH_take (i := 3) (v := ?bv3) rfl (by kernel_rfl) (by kernel_rfl) (by kernel_rfl) (fun _ _ _ h => h) (Or.inl ⟨by kernel_rfl, ?by3⟩) hS1 ?_
    case by3 => (intro w hSw; obtain ⟨q0, q1, q2, q3, q4⟩ := hSw; go_simp; try with_reducible rfl)
    refine wpAnyH_take (i := 4) (v := ?bv4) rfl (by kernel_rfl) (by kernel_rfl) (by kernel_rfl) (fun _ _ _ h => h) (Or.inl ⟨by kernel_rfl, ?by4⟩) hS1 ?_
    case by4 => (intro w hSw; obtain ⟨q0, q1, q2, q3, q4⟩ := hSw; go_simp; try with_reducible rfl)
    refine wpAnyH_take (i := 5) (v := ?bv5) rfl (by kernel_rfl) (by kernel_rfl) (by kernel_rfl) (fun _ _ _ h => h) (Or.inl ⟨by kernel_rfl, ?by5⟩) hS1 ?_
    case by5 => (intro w hSw; obtain ⟨q0, q1, q2, q3, q4⟩ := hSw; go_simp; try with_reducible rfl)
    refine wpAnyH_take (i := 6) (v := ?bv6) rfl (by kernel_rfl) (by kernel_rfl) (by kernel_rfl) (fun _ _ _ h => h) (Or.inl ⟨by kernel_rfl, ?by6⟩) hS1 ?_
    case by6 => (intro w hSw; obtain ⟨q0, q1, q2, q3, q4⟩ := hSw; go_simp; try with_reducible rfl)
    refine wpAnyH_take (i := 7) (v := ?bv7) rfl (by kernel_rfl) (by kernel_rfl) (by kernel_rfl) (fun _ _ _ h => h) (Or.inl ⟨by kernel_rfl, ?by7⟩) hS1 ?_
    case by7 => (intro w hSw; obtain ⟨q0, q1, q2, q3, q4⟩ := hSw; go_simp; try with_reducible rfl)
    refine wpAnyH_take (i := 8) (v := ?bv8) rfl (by kernel_rfl) (by kernel_rfl) (by kernel_rfl) (fun _ _ _ h => h) (Or.inl ⟨by kernel_rfl, ?by8⟩) hS1 ?_
    case by8 => (intro w hSw; obtain ⟨q0, q1, q2, q3, q4⟩ := hSw; go_simp; try with_reducible rfl)
    refine wpAnyH_take (i := 9) (v := ?bv9) rfl (by kernel_rfl) (by kernel_rfl) (by kernel_rfl) (fun _ _ _ h => h) (Or.inl ⟨by kernel_rfl, ?by9⟩) hS1 ?_
    case by9 => (intro w hSw; obtain ⟨q0, q1, q2, q3, q4⟩ := hSw; go_simp; try with_reducible rfl)
    refine wpAnyH_take (i := 10) (v := ?bv10) rfl (by kernel_rfl) (by kernel_rfl) (by kernel_rfl) (fun _ _ _ h => h) (Or.inl ⟨by kernel_rfl, ?by10⟩) hS1 ?_
    case by10 => (intro w hSw; obtain ⟨q0, q1, q2, q3, q4⟩ := hSw; go_simp; try with_reducible rfl)
    refine wpAnyH_take (i := 11) (v := ?bv11) rfl (by kernel_rfl) (by kernel_rfl) (by kernel_rfl) (fun _ _ _ h => h) (Or.inl ⟨by kernel_rfl, ?by11⟩) hS1 ?_
    case by11 => (intro w hSw; obtain ⟨q0, q1, q2, q3, q4⟩ := hSw; go_simp; try with_reducible rfl)
    refine wpAnyH_take (i := 12) (v := ?bv12) rfl (by kernel_rfl) (by kernel_rfl) (by kernel_rfl) (fun _ _ _ h => h) (Or.inl ⟨by kernel_rfl, ?by12⟩) hS1 ?_
    case by12 => (intro w hSw; obtain ⟨q0, q1, q2, q3, q4⟩ := hSw; go_simp; try with_reducible rfl)
    refine wpAnyH_take (i := 13) (v := ?bv13) rfl (by kernel_rfl) (by kernel_rfl) (by kernel_rfl) (fun _ _ _ h => h) (Or.inl ⟨by kernel_rfl, ?by13⟩) hS1 ?_
    case by13 => (intro w hSw; obtain ⟨q0, q1, q2, q3, q4⟩ := hSw; go_simp; try with_reducible rfl)
    refine wpAnyH_take (i := 14) (v := undef) rfl (by kernel_rfl) (by kernel_rfl) (by kernel_rfl) (fun _ _ _ h => h) (Or.inr ⟨by kernel_rfl, rfl⟩) hS1 ?_
    refine wpAnyH_take (i := 15) (v := undef) rfl (by kernel_rfl) (by kernel_rfl) (by kernel_rfl) (fun _ _ _ h => h) (Or.inr ⟨by kernel_rfl, rfl⟩) hS1 ?_
    refine wpAnyH_take (i := 16) (v := undef) rfl (by kernel_rfl) (by kernel_rfl) (by kernel_rfl) (fun _ _ _ h => h) (Or.inr ⟨by kernel_rfl, rfl⟩) hS1 ?_
    refine wpAnyH_take (i := 17) (v := undef) rfl (by kernel_rfl) (by kernel_rfl) (by kernel_rfl) (fun _ _ _ h => h) (Or.inr ⟨by kernel_rfl, rfl⟩) hS1 ?_
    refine wpAnyH_take (i := 18) (v := ?bv18) rfl (by kernel_rfl) (by kernel_rfl) (by kernel_rfl) (fun _ _ _ h => h) (Or.inl ⟨by kernel_rfl, ?by18⟩) hS1 ?_
    case by18 => (intro w hSw; obtain ⟨q0, q1, q2, q3, q4⟩ := hSw; go_simp; try with_reducible rfl)
    refine wpAnyH_done (by kernel_rfl) ?_ _
    go_simp
    go_wp2
    go_end0
    first
      | exact ⟨rfl, fun _ => hBf.drew, fun h => by simp at h⟩
      | exact ⟨rfl, hBf.drew⟩
end Go.Proofs
