import Derived.Test.YtjbekgjdempbiaaGreatDoorJVRev
/-
  The code: failed.
-/
namespace Go.Proofs
open Go.RowKit Go.Sort Go.Lib Go.Shelf Go.Maps

set_option maxRecDepth 100000 in
set_option maxHeartbeats 4000000 in
theorem Tryz.failed_tok (vb mt : Nat) (x : Int × Int) (tm ak au at_ tr : Int) (pd : Bool) (w : World) (hP : ∀ W, Below w.heap.size w W → W.cell? ⟨vb, 3, none⟩ = some (.map (some mt)) ∧ W.cell? ⟨vb, 2, none⟩ = some (.int .u64 tm) ∧ (Instr.lookup 120 (.map (some mt)) (nmV x) true).run Tryz.prog W = .ok (.tuple #[.agg #[.int .i64 ak, .int .u64 au, .int .u64 at_, .int .i64 tr, .bool pd], .bool true]) W) (h0 : 0 ≤ tr) (h1 : tr < 9223372036854775807) (t0 : 0 ≤ tm) (t1 : tm ≤ 18446744073709551615) :
    Calls Tryz.prog 135 #[.pointer (some ⟨vb, 0, none⟩), nmV x] w fun e w' => e = .returned (.agg (recCells 1 x.1 x.2 ak au true (plusI tm (waitN tr.toNat)) (tr + 1) 0 [])) ∧ Below w.heap.size w w' := by
  have hB0 : Below w.heap.size w ((w.alloc (.cells #[.int .i64 x.1, .int .u64 x.2] 114)).alloc (.cells #[.int .i64 0, .int .i64 0, .int .u64 0, .int .i64 0, .int .u64 0, .bool false, .int .u64 0, .int .i64 0, .int .u64 0, .string ⟨#[]⟩] 135)) := ((Below.refl _ w).alloc (Nat.le_refl _) _).alloc (by simp) _
  have bN := (BoxN.new w 114 #[.int .i64 x.1, .int .u64 x.2]).alloc (.cells #[.int .i64 0, .int .i64 0, .int .u64 0, .int .i64 0, .int .u64 0, .bool false, .int .u64 0, .int .i64 0, .int .u64 0, .string ⟨#[]⟩] 135)
  have bR := BoxN.new (w.alloc (.cells #[.int .i64 x.1, .int .u64 x.2] 114)) 135 #[.int .i64 0, .int .i64 0, .int .u64 0, .int .i64 0, .int .u64 0, .bool false, .int .u64 0, .int .i64 0, .int .u64 0, .string ⟨#[]⟩]
  rw [World.size_alloc] at bR
  have hs0 : ((w.alloc (.cells #[.int .i64 x.1, .int .u64 x.2] 114)).alloc (.cells #[.int .i64 0, .int .i64 0, .int .u64 0, .int .i64 0, .int .u64 0, .bool false, .int .u64 0, .int .i64 0, .int .u64 0, .string ⟨#[]⟩] 135)).heap.size = w.heap.size + 2 := by simp
  unfold nmV recCells at *
  obtain ⟨at2, hat2⟩ : ∃ at2, plusI tm (waitN tr.toNat) = at2 := ⟨_, rfl⟩
  rw [hat2]
  have HA := hid_intro hat2
  clear hat2
  go_enter Tryz.func135, Tryz.ntmps135
  go_wp2_with fail
  generalize ((w.alloc (.cells #[.int .i64 x.1, .int .u64 x.2] 114)).alloc (.cells #[.int .i64 0, .int .i64 0, .int .u64 0, .int .i64 0, .int .u64 0, .bool false, .int .u64 0, .int .i64 0, .int .u64 0, .string ⟨#[]⟩] 135)) = W1 at *
  have hS : ∀ W, Below (w.heap.size + 2) W1 W → Tryz.LkP vb 3 mt w.heap.size 120 x.1 x.2 (.tuple #[.agg #[.int .i64 ak, .int .u64 au, .int .u64 at_, .int .i64 tr, .bool pd], .bool true]) W := fun W hb => by
    have bN' := bN.below hb (by omega)
    obtain ⟨h1, h2, h3⟩ := hP W (hB0.trans (hb.mono (by omega)))
    exact ⟨h1, bN'.cell 0 rfl, bN'.cell 1 rfl, h3⟩
  have hb1 : Below (w.heap.size + 2) W1 W1.drew := (Below.refl _ _).drew
  refine wp_region_held_drew (S := (Tryz.LkP vb 3 mt w.heap.size 120 x.1 x.2 (.tuple #[.agg #[.int .i64 ak, .int .u64 au, .int .u64 at_, .int .i64 tr, .bool pd], .bool true]))) (by kernel_rfl) (hS _ hb1) (fun hS0 => ?_)
  refine wpAnyH_take (i := 0) (v := ?v0) rfl (by kernel_rfl) (by kernel_rfl) (by kernel_rfl) (fun _ _ _ h => h) (Or.inl ⟨by kernel_rfl, ?y0⟩) hS0 ?_
  case y0 => (intro w hSw; obtain ⟨q0, q1, q2, q3⟩ := hSw; go_simp; try with_reducible rfl)
  refine wpAnyH_take (i := 1) (v := ?v1) rfl (by kernel_rfl) (by kernel_rfl) (by kernel_rfl) (fun _ _ _ h => h) (Or.inl ⟨by kernel_rfl, ?y1⟩) hS0 ?_
  case y1 => (intro w hSw; obtain ⟨q0, q1, q2, q3⟩ := hSw; go_simp; try with_reducible rfl)
  refine wpAnyH_take (i := 2) (v := ?v2) rfl (by kernel_rfl) (by kernel_rfl) (by kernel_rfl) (fun _ _ _ h => h) (Or.inl ⟨by kernel_rfl, ?y2⟩) hS0 ?_
  case y2 => (intro w hSw; obtain ⟨q0, q1, q2, q3⟩ := hSw; go_simp; try with_reducible rfl)
  refine wpAnyH_take (i := 3) (v := ?v3) rfl (by kernel_rfl) (by kernel_rfl) (by kernel_rfl) (fun _ _ _ h => h) (Or.inl ⟨by kernel_rfl, ?y3⟩) hS0 ?_
  case y3 => (intro w hSw; obtain ⟨q0, q1, q2, q3⟩ := hSw; go_simp; try with_reducible rfl)
  refine wpAnyH_take (i := 4) (v := ?v4) rfl (by kernel_rfl) (by kernel_rfl) (by kernel_rfl) (fun _ _ _ h => h) (Or.inl ⟨by kernel_rfl, ?y4⟩) hS0 ?_
  case y4 => (intro w hSw; obtain ⟨q0, q1, q2, q3⟩ := hSw; go_simp; try with_reducible rfl)
  refine wpAnyH_take (i := 5) (v := ?v5) rfl (by kernel_rfl) (by kernel_rfl) (by kernel_rfl) (fun _ _ _ h => h) (Or.inl ⟨by kernel_rfl, ?y5⟩) hS0 ?_
  case y5 => (intro w hSw; obtain ⟨q0, q1, q2, q3⟩ := hSw; go_simp; try with_reducible rfl)
  refine wpAnyH_take (i := 6) (v := ?v6) rfl (by kernel_rfl) (by kernel_rfl) (by kernel_rfl) (fun _ _ _ h => h) (Or.inl ⟨by kernel_rfl, ?y6⟩) hS0 ?_
  case y6 => (intro w hSw; obtain ⟨q0, q1, q2, q3⟩ := hSw; go_simp; try with_reducible rfl)
  refine wpAnyH_take (i := 7) (v := ?v7) rfl (by kernel_rfl) (by kernel_rfl) (by kernel_rfl) (fun _ _ _ h => h) (Or.inl ⟨by kernel_rfl, ?y7⟩) hS0 ?_
  case y7 => (intro w hSw; obtain ⟨q0, q1, q2, q3⟩ := hSw; go_simp; try with_reducible rfl)
  refine wpAnyH_take (i := 8) (v := ?v8) rfl (by kernel_rfl) (by kernel_rfl) (by kernel_rfl) (fun _ _ _ h => h) (Or.inl ⟨by kernel_rfl, ?y8⟩) hS0 ?_
  case y8 => (intro w hSw; obtain ⟨q0, q1, q2, q3⟩ := hSw; go_simp; try with_reducible rfl)
  refine wpAnyH_ready (rs := [9]) (by kernel_rfl) (by simp) ?_
  refine AllReadyH.cons rfl (fun K hK => ?_) AllReadyH.nil
  go_simp
  refine hK.out _ _ (hS _ (hb1.alloc (by simp [hs0]) _)) (fun hS1 => ?_)
  clear hK K
  refine wpAnyH_ready (rs := [10]) (by kernel_rfl) (by simp) ?_
  refine AllReadyH.cons rfl (fun K hK => ?_) AllReadyH.nil
  go_simp
  have hb2 : Below (w.heap.size + 2) W1 (W1.alloc (.cells #[.int .i64 ak, .int .u64 au, .int .u64 at_, .int .i64 tr, .bool pd] 153)).drew := ((Below.refl _ _).alloc (by omega) _).drew
  refine hK.out _ _ (hS _ hb2) (fun hS2 => ?_)
  clear hK K
  refine wpAnyH_ready (rs := [11]) (by kernel_rfl) (by simp) ?_
  refine AllReadyH.cons rfl (fun K hK => ?_) AllReadyH.nil
  go_simp
  refine hK.out _ _ hS2 (fun _ => ?_)
  clear hK K hS0 hS1 hS2
  refine wpAnyH_done (by kernel_rfl) ?_ _
  have bT : BoxN (W1.alloc (.cells #[.int .i64 ak, .int .u64 au, .int .u64 at_, .int .i64 tr, .bool pd] 153)).drew (w.heap.size + 2) 153 #[.int .i64 ak, .int .u64 au, .int .u64 at_, .int .i64 tr, .bool pd] := by
    have h := BoxN.new W1 153 #[.int .i64 ak, .int .u64 au, .int .u64 at_, .int .i64 tr, .bool pd]
    rw [hs0] at h
    exact h
  have hsz2 : (W1.alloc (.cells #[.int .i64 ak, .int .u64 au, .int .u64 at_, .int .i64 tr, .bool pd] 153)).drew.heap.size = w.heap.size + 3 := by simp [hs0]
  have bR2 := bR.below hb2 (by omega)
  have bN2 := bN.below hb2 (by omega)
  have hBf := hB0.trans (hb2.mono (by omega))
  obtain ⟨-, ct, -⟩ := hP _ hBf
  clear hS hP hb1 hb2 hB0 bN bR hs0
  generalize (W1.alloc (.cells #[.int .i64 ak, .int .u64 au, .int .u64 at_, .int .i64 tr, .bool pd] 153)).drew = W2 at *
  have hF := Tryz.eFail (w.heap.size + 2) 153 ak au at_ tr tm pd [] W2 (by simpa using bT) h0 h1 t0 t1
  rw [hid_elim HA] at hF
  clear HA bT
  go_wp2_with (first
    | (go_at_call 168; refine hF.mono ?_; rintro e w3 ⟨rfl, bT3, hS3⟩; have hB3 : Below w.heap.size w w3 := ⟨hS3.os.trans hBf.os, hS3.tape.trans hBf.tape, hS3.output.trans hBf.output, Nat.le_trans hBf.size hS3.size, fun k hk => (hS3.block k (Nat.lt_of_lt_of_le hk hBf.size) (by simp; omega)).trans (hBf.block k hk)⟩; have bR3 := hS3.box bR2 (by simp); have bN3 := hS3.box bN2 (by simp); have n0 := bN3.cell 0 (v := .int .i64 x.1) rfl; have n1 := bN3.cell 1 (v := .int .u64 x.2) rfl; have hE := Tryz.entRecord (w.heap.size + 2) x.1 x.2 ak au at2 (tr + 1) true w3 (bT3.cell 0 (by simp)) (bT3.cell 1 (by simp)) (bT3.cell 2 (by simp)) (bT3.cell 3 (by simp)) (bT3.cell 4 (by simp)); unfold recCells at hE)
    | (go_at_call 84; refine hE.mono ?_; rintro e w4 ⟨rfl, hb4⟩; have hB4 := hB3.trans (hb4.mono hB3.size); have bR4 := bR3.below hb4 bR3.lt; have z0 := bR4.cell 0 (v := .int .i64 0) rfl; have f0 := bR4.frozen 0; have z1 := bR4.cell 1 (v := .int .i64 0) rfl; have f1 := bR4.frozen 1; have z2 := bR4.cell 2 (v := .int .u64 0) rfl; have f2 := bR4.frozen 2; have z3 := bR4.cell 3 (v := .int .i64 0) rfl; have f3 := bR4.frozen 3; have z4 := bR4.cell 4 (v := .int .u64 0) rfl; have f4 := bR4.frozen 4; have z5 := bR4.cell 5 (v := .bool false) rfl; have f5 := bR4.frozen 5; have z6 := bR4.cell 6 (v := .int .u64 0) rfl; have f6 := bR4.frozen 6; have z7 := bR4.cell 7 (v := .int .i64 0) rfl; have f7 := bR4.frozen 7; have z8 := bR4.cell 8 (v := .int .u64 0) rfl; have f8 := bR4.frozen 8; have z9 := bR4.cell 9 (v := .string ⟨#[]⟩) rfl; have f9 := bR4.frozen 9))
  have z0 := bR4.cell 0 (v := .int .i64 0) rfl
  have f0 := bR4.frozen 0
  have z1 := bR4.cell 1 (v := .int .i64 0) rfl
  have f1 := bR4.frozen 1
  have z2 := bR4.cell 2 (v := .int .u64 0) rfl
  have f2 := bR4.frozen 2
  have z3 := bR4.cell 3 (v := .int .i64 0) rfl
  have f3 := bR4.frozen 3
  have z4 := bR4.cell 4 (v := .int .u64 0) rfl
  have f4 := bR4.frozen 4
  have z5 := bR4.cell 5 (v := .bool false) rfl
  have f5 := bR4.frozen 5
  have z6 := bR4.cell 6 (v := .int .u64 0) rfl
  have f6 := bR4.frozen 6
  have z7 := bR4.cell 7 (v := .int .i64 0) rfl
  have f7 := bR4.frozen 7
  have z8 := bR4.cell 8 (v := .int .u64 0) rfl
  have f8 := bR4.frozen 8
  have z9 := bR4.cell 9 (v := .string ⟨#[]⟩) rfl
  have f9 := bR4.frozen 9
  have hfin := ((((((((((bR4.set 0 (.int .i64 1)).set 1 (.int .i64 x.1)).set 2 (.int .u64 x.2)).set 3 (.int .i64 ak)).set 4 (.int .u64 au)).set 5 (.bool true)).set 6 (.int .u64 at2)).set 7 (.int .i64 (tr + 1))).set 8 (.int .u64 0)).set 9 (.string ⟨#[]⟩))
  have r0 := hfin.cell 0 (v := .int .i64 1) (by simp)
  have r1 := hfin.cell 1 (v := .int .i64 x.1) (by simp)
  have r2 := hfin.cell 2 (v := .int .u64 x.2) (by simp)
  have r3 := hfin.cell 3 (v := .int .i64 ak) (by simp)
  have r4 := hfin.cell 4 (v := .int .u64 au) (by simp)
  have r5 := hfin.cell 5 (v := .bool true) (by simp)
  have r6 := hfin.cell 6 (v := .int .u64 at2) (by simp)
  have r7 := hfin.cell 7 (v := .int .i64 (tr + 1)) (by simp)
  have r8 := hfin.cell 8 (v := .int .u64 0) (by simp)
  have r9 := hfin.cell 9 (v := .string ⟨#[]⟩) (by simp)
  have hBw := hid_intro ((((((((((hB4.setCell (p := ⟨w.heap.size + 1, 0, none⟩) (by show w.heap.size ≤ w.heap.size + 1; omega) (.int .i64 1)).setCell (p := ⟨w.heap.size + 1, 1, none⟩) (by show w.heap.size ≤ w.heap.size + 1; omega) (.int .i64 x.1)).setCell (p := ⟨w.heap.size + 1, 2, none⟩) (by show w.heap.size ≤ w.heap.size + 1; omega) (.int .u64 x.2)).setCell (p := ⟨w.heap.size + 1, 3, none⟩) (by show w.heap.size ≤ w.heap.size + 1; omega) (.int .i64 ak)).setCell (p := ⟨w.heap.size + 1, 4, none⟩) (by show w.heap.size ≤ w.heap.size + 1; omega) (.int .u64 au)).setCell (p := ⟨w.heap.size + 1, 5, none⟩) (by show w.heap.size ≤ w.heap.size + 1; omega) (.bool true)).setCell (p := ⟨w.heap.size + 1, 6, none⟩) (by show w.heap.size ≤ w.heap.size + 1; omega) (.int .u64 at2)).setCell (p := ⟨w.heap.size + 1, 7, none⟩) (by show w.heap.size ≤ w.heap.size + 1; omega) (.int .i64 (tr + 1))).setCell (p := ⟨w.heap.size + 1, 8, none⟩) (by show w.heap.size ≤ w.heap.size + 1; omega) (.int .u64 0)).setCell (p := ⟨w.heap.size + 1, 9, none⟩) (by show w.heap.size ≤ w.heap.size + 1; omega) (.string ⟨#[]⟩))
  clear hfin
  exact bodyPost_ret (v := .agg #[.int .i64 1, .int .i64 x.1, .int .u64 x.2, .int .i64 ak, .int .u64 au, .bool true, .int .u64 at2, .int .i64 (tr + 1), .int .u64 0, .string ⟨#[]⟩]) (by simp [results, Tryz.results135, go_sem, r0, r1, r2, r3, r4, r5, r6, r7, r8, r9]) rfl ⟨rfl, hid_elim hBw⟩

set_option maxRecDepth 100000 in
set_option maxHeartbeats 4000000 in
theorem Tryz.failed_lea (vb mt ml : Nat) (x : Int × Int) (tm ak au at_ tr : Int) (pd : Bool) (pth : List UInt8) (la : Int) (w : World) (hvb : vb < w.heap.size) (hP : ∀ W, Below w.heap.size w W → W.cell? ⟨vb, 3, none⟩ = some (.map (some mt)) ∧ W.cell? ⟨vb, 2, none⟩ = some (.int .u64 tm) ∧ (Instr.lookup 120 (.map (some mt)) (nmV x) true).run Tryz.prog W = .ok (.tuple #[.agg #[.int .i64 0, .int .u64 0, .int .u64 0, .int .i64 0, .bool false], .bool false]) W)
    (hP2 : ∀ W, Below w.heap.size w W → W.cell? ⟨vb, 4, none⟩ = some (.map (some ml)) ∧ (Instr.lookup 121 (.map (some ml)) (nmV x) false).run Tryz.prog W = .ok (.agg #[.int .i64 ak, .int .u64 au, .int .u64 at_, .int .i64 tr, .bool pd, .string ⟨pth.toArray⟩, .int .u64 la]) W) (h0 : 0 ≤ tr) (h1 : tr < 9223372036854775807) (t0 : 0 ≤ tm) (t1 : tm ≤ 18446744073709551615) :
    Calls Tryz.prog 135 #[.pointer (some ⟨vb, 0, none⟩), nmV x] w fun e w' => e = .returned (.agg (recCells 1 x.1 x.2 ak au true (plusI tm (waitN tr.toNat)) (tr + 1) la pth)) ∧ Below w.heap.size w w' := by
  have hB0 : Below w.heap.size w ((w.alloc (.cells #[.int .i64 x.1, .int .u64 x.2] 114)).alloc (.cells #[.int .i64 0, .int .i64 0, .int .u64 0, .int .i64 0, .int .u64 0, .bool false, .int .u64 0, .int .i64 0, .int .u64 0, .string ⟨#[]⟩] 135)) := ((Below.refl _ w).alloc (Nat.le_refl _) _).alloc (by simp) _
  have bN := (BoxN.new w 114 #[.int .i64 x.1, .int .u64 x.2]).alloc (.cells #[.int .i64 0, .int .i64 0, .int .u64 0, .int .i64 0, .int .u64 0, .bool false, .int .u64 0, .int .i64 0, .int .u64 0, .string ⟨#[]⟩] 135)
  have bR := BoxN.new (w.alloc (.cells #[.int .i64 x.1, .int .u64 x.2] 114)) 135 #[.int .i64 0, .int .i64 0, .int .u64 0, .int .i64 0, .int .u64 0, .bool false, .int .u64 0, .int .i64 0, .int .u64 0, .string ⟨#[]⟩]
  rw [World.size_alloc] at bR
  have hs0 : ((w.alloc (.cells #[.int .i64 x.1, .int .u64 x.2] 114)).alloc (.cells #[.int .i64 0, .int .i64 0, .int .u64 0, .int .i64 0, .int .u64 0, .bool false, .int .u64 0, .int .i64 0, .int .u64 0, .string ⟨#[]⟩] 135)).heap.size = w.heap.size + 2 := by simp
  unfold nmV recCells at *
  obtain ⟨at2, hat2⟩ : ∃ at2, plusI tm (waitN tr.toNat) = at2 := ⟨_, rfl⟩
  rw [hat2]
  have HA := hid_intro hat2
  clear hat2
  go_enter Tryz.func135, Tryz.ntmps135
  go_wp2_with fail
  generalize ((w.alloc (.cells #[.int .i64 x.1, .int .u64 x.2] 114)).alloc (.cells #[.int .i64 0, .int .i64 0, .int .u64 0, .int .i64 0, .int .u64 0, .bool false, .int .u64 0, .int .i64 0, .int .u64 0, .string ⟨#[]⟩] 135)) = W1 at *
  have hS : ∀ W, Below (w.heap.size + 2) W1 W → Tryz.LkP vb 3 mt w.heap.size 120 x.1 x.2 (.tuple #[.agg #[.int .i64 0, .int .u64 0, .int .u64 0, .int .i64 0, .bool false], .bool false]) W := fun W hb => by
    have bN' := bN.below hb (by omega)
    obtain ⟨h1, h2, h3⟩ := hP W (hB0.trans (hb.mono (by omega)))
    exact ⟨h1, bN'.cell 0 rfl, bN'.cell 1 rfl, h3⟩
  have hb1 : Below (w.heap.size + 2) W1 W1.drew := (Below.refl _ _).drew
  refine wp_region_held_drew (S := (Tryz.LkP vb 3 mt w.heap.size 120 x.1 x.2 (.tuple #[.agg #[.int .i64 0, .int .u64 0, .int .u64 0, .int .i64 0, .bool false], .bool false]))) (by kernel_rfl) (hS _ hb1) (fun hS0 => ?_)
  refine wpAnyH_take (i := 0) (v := ?v0) rfl (by kernel_rfl) (by kernel_rfl) (by kernel_rfl) (fun _ _ _ h => h) (Or.inl ⟨by kernel_rfl, ?y0⟩) hS0 ?_
  case y0 => (intro w hSw; obtain ⟨q0, q1, q2, q3⟩ := hSw; go_simp; try with_reducible rfl)
  refine wpAnyH_take (i := 1) (v := ?v1) rfl (by kernel_rfl) (by kernel_rfl) (by kernel_rfl) (fun _ _ _ h => h) (Or.inl ⟨by kernel_rfl, ?y1⟩) hS0 ?_
  case y1 => (intro w hSw; obtain ⟨q0, q1, q2, q3⟩ := hSw; go_simp; try with_reducible rfl)
  refine wpAnyH_take (i := 2) (v := ?v2) rfl (by kernel_rfl) (by kernel_rfl) (by kernel_rfl) (fun _ _ _ h => h) (Or.inl ⟨by kernel_rfl, ?y2⟩) hS0 ?_
  case y2 => (intro w hSw; obtain ⟨q0, q1, q2, q3⟩ := hSw; go_simp; try with_reducible rfl)
  refine wpAnyH_take (i := 3) (v := ?v3) rfl (by kernel_rfl) (by kernel_rfl) (by kernel_rfl) (fun _ _ _ h => h) (Or.inl ⟨by kernel_rfl, ?y3⟩) hS0 ?_
  case y3 => (intro w hSw; obtain ⟨q0, q1, q2, q3⟩ := hSw; go_simp; try with_reducible rfl)
  refine wpAnyH_take (i := 4) (v := ?v4) rfl (by kernel_rfl) (by kernel_rfl) (by kernel_rfl) (fun _ _ _ h => h) (Or.inl ⟨by kernel_rfl, ?y4⟩) hS0 ?_
  case y4 => (intro w hSw; obtain ⟨q0, q1, q2, q3⟩ := hSw; go_simp; try with_reducible rfl)
  refine wpAnyH_take (i := 5) (v := ?v5) rfl (by kernel_rfl) (by kernel_rfl) (by kernel_rfl) (fun _ _ _ h => h) (Or.inl ⟨by kernel_rfl, ?y5⟩) hS0 ?_
  case y5 => (intro w hSw; obtain ⟨q0, q1, q2, q3⟩ := hSw; go_simp; try with_reducible rfl)
  refine wpAnyH_take (i := 6) (v := ?v6) rfl (by kernel_rfl) (by kernel_rfl) (by kernel_rfl) (fun _ _ _ h => h) (Or.inl ⟨by kernel_rfl, ?y6⟩) hS0 ?_
  case y6 => (intro w hSw; obtain ⟨q0, q1, q2, q3⟩ := hSw; go_simp; try with_reducible rfl)
  refine wpAnyH_take (i := 7) (v := ?v7) rfl (by kernel_rfl) (by kernel_rfl) (by kernel_rfl) (fun _ _ _ h => h) (Or.inl ⟨by kernel_rfl, ?y7⟩) hS0 ?_
  case y7 => (intro w hSw; obtain ⟨q0, q1, q2, q3⟩ := hSw; go_simp; try with_reducible rfl)
  refine wpAnyH_take (i := 8) (v := ?v8) rfl (by kernel_rfl) (by kernel_rfl) (by kernel_rfl) (fun _ _ _ h => h) (Or.inl ⟨by kernel_rfl, ?y8⟩) hS0 ?_
  case y8 => (intro w hSw; obtain ⟨q0, q1, q2, q3⟩ := hSw; go_simp; try with_reducible rfl)
  refine wpAnyH_ready (rs := [9]) (by kernel_rfl) (by simp) ?_
  refine AllReadyH.cons rfl (fun K hK => ?_) AllReadyH.nil
  go_simp
  refine hK.out _ _ (hS _ (hb1.alloc (by simp [hs0]) _)) (fun hS1 => ?_)
  clear hK K
  refine wpAnyH_ready (rs := [10]) (by kernel_rfl) (by simp) ?_
  refine AllReadyH.cons rfl (fun K hK => ?_) AllReadyH.nil
  go_simp
  have hb2 : Below (w.heap.size + 2) W1 (W1.alloc (.cells #[.int .i64 0, .int .u64 0, .int .u64 0, .int .i64 0, .bool false] 153)).drew := ((Below.refl _ _).alloc (by omega) _).drew
  refine hK.out _ _ (hS _ hb2) (fun hS2 => ?_)
  clear hK K
  refine wpAnyH_ready (rs := [11]) (by kernel_rfl) (by simp) ?_
  refine AllReadyH.cons rfl (fun K hK => ?_) AllReadyH.nil
  go_simp
  refine hK.out _ _ hS2 (fun _ => ?_)
  clear hK K hS0 hS1 hS2
  refine wpAnyH_done (by kernel_rfl) ?_ _
  have bT : BoxN (W1.alloc (.cells #[.int .i64 0, .int .u64 0, .int .u64 0, .int .i64 0, .bool false] 153)).drew (w.heap.size + 2) 153 #[.int .i64 0, .int .u64 0, .int .u64 0, .int .i64 0, .bool false] := by
    have h := BoxN.new W1 153 #[.int .i64 0, .int .u64 0, .int .u64 0, .int .i64 0, .bool false]
    rw [hs0] at h
    exact h
  have hsz2 : (W1.alloc (.cells #[.int .i64 0, .int .u64 0, .int .u64 0, .int .i64 0, .bool false] 153)).drew.heap.size = w.heap.size + 3 := by simp [hs0]
  have bR2 := bR.below hb2 (by omega)
  have bN2 := bN.below hb2 (by omega)
  have hBf := hB0.trans (hb2.mono (by omega))
  clear bT
  obtain ⟨-, ct, -⟩ := hP _ hBf
  clear hS hP hb1 hb2 hB0 bN bR hs0
  generalize (W1.alloc (.cells #[.int .i64 0, .int .u64 0, .int .u64 0, .int .i64 0, .bool false] 153)).drew = W2 at *
  go_wp2_with fail
  clear W1
  generalize W2 = W1 at *
  have hs0 := hsz2
  have hS : ∀ W, Below (w.heap.size + 3) W1 W → Tryz.LkP1 vb 4 ml w.heap.size 121 x.1 x.2 (.agg #[.int .i64 ak, .int .u64 au, .int .u64 at_, .int .i64 tr, .bool pd, .string ⟨pth.toArray⟩, .int .u64 la]) W := fun W hb => by
    have bN' := bN2.below hb (by omega)
    obtain ⟨h1, h2⟩ := hP2 W (hBf.trans (hb.mono (by omega)))
    exact ⟨h1, bN'.cell 0 rfl, bN'.cell 1 rfl, h2⟩
  have hb1 : Below (w.heap.size + 3) W1 W1.drew := (Below.refl _ _).drew
  refine wp_region_held_drew (S := (Tryz.LkP1 vb 4 ml w.heap.size 121 x.1 x.2 (.agg #[.int .i64 ak, .int .u64 au, .int .u64 at_, .int .i64 tr, .bool pd, .string ⟨pth.toArray⟩, .int .u64 la]))) (by kernel_rfl) (hS _ hb1) (fun hS0 => ?_)
  refine wpAnyH_take (i := 0) (v := ?vk0) rfl (by kernel_rfl) (by kernel_rfl) (by kernel_rfl) (fun _ _ _ h => h) (Or.inl ⟨by kernel_rfl, ?yk0⟩) hS0 ?_
  case yk0 => (intro w hSw; obtain ⟨q0, q1, q2, q3⟩ := hSw; go_simp; try with_reducible rfl)
  refine wpAnyH_take (i := 1) (v := ?vk1) rfl (by kernel_rfl) (by kernel_rfl) (by kernel_rfl) (fun _ _ _ h => h) (Or.inl ⟨by kernel_rfl, ?yk1⟩) hS0 ?_
  case yk1 => (intro w hSw; obtain ⟨q0, q1, q2, q3⟩ := hSw; go_simp; try with_reducible rfl)
  refine wpAnyH_take (i := 2) (v := ?vk2) rfl (by kernel_rfl) (by kernel_rfl) (by kernel_rfl) (fun _ _ _ h => h) (Or.inl ⟨by kernel_rfl, ?yk2⟩) hS0 ?_
  case yk2 => (intro w hSw; obtain ⟨q0, q1, q2, q3⟩ := hSw; go_simp; try with_reducible rfl)
  refine wpAnyH_take (i := 3) (v := ?vk3) rfl (by kernel_rfl) (by kernel_rfl) (by kernel_rfl) (fun _ _ _ h => h) (Or.inl ⟨by kernel_rfl, ?yk3⟩) hS0 ?_
  case yk3 => (intro w hSw; obtain ⟨q0, q1, q2, q3⟩ := hSw; go_simp; try with_reducible rfl)
  refine wpAnyH_take (i := 4) (v := ?vk4) rfl (by kernel_rfl) (by kernel_rfl) (by kernel_rfl) (fun _ _ _ h => h) (Or.inl ⟨by kernel_rfl, ?yk4⟩) hS0 ?_
  case yk4 => (intro w hSw; obtain ⟨q0, q1, q2, q3⟩ := hSw; go_simp; try with_reducible rfl)
  refine wpAnyH_take (i := 5) (v := ?vk5) rfl (by kernel_rfl) (by kernel_rfl) (by kernel_rfl) (fun _ _ _ h => h) (Or.inl ⟨by kernel_rfl, ?yk5⟩) hS0 ?_
  case yk5 => (intro w hSw; obtain ⟨q0, q1, q2, q3⟩ := hSw; go_simp; try with_reducible rfl)
  refine wpAnyH_ready (rs := [6]) (by kernel_rfl) (by simp) ?_
  refine AllReadyH.cons rfl (fun K hK => ?_) AllReadyH.nil
  go_simp
  refine hK.out _ _ (hS _ (hb1.alloc (by simp [hs0]) _)) (fun hS1 => ?_)
  clear hK K
  refine wpAnyH_ready (rs := [7]) (by kernel_rfl) (by simp) ?_
  refine AllReadyH.cons rfl (fun K hK => ?_) AllReadyH.nil
  go_simp
  have hb2 : Below (w.heap.size + 3) W1 (W1.alloc (.cells #[.int .i64 ak, .int .u64 au, .int .u64 at_, .int .i64 tr, .bool pd, .string ⟨pth.toArray⟩, .int .u64 la] 131)).drew := ((Below.refl _ _).alloc (by omega) _).drew
  refine hK.out _ _ (hS _ hb2) (fun hS2 => ?_)
  clear hK K hS0 hS1 hS2
  refine wpAnyH_done (by kernel_rfl) ?_ _
  have bL8 : BoxN (W1.alloc (.cells #[.int .i64 ak, .int .u64 au, .int .u64 at_, .int .i64 tr, .bool pd, .string ⟨pth.toArray⟩, .int .u64 la] 131)).drew (w.heap.size + 3) 131 #[.int .i64 ak, .int .u64 au, .int .u64 at_, .int .i64 tr, .bool pd, .string ⟨pth.toArray⟩, .int .u64 la] := by
    have h := BoxN.new W1 131 #[.int .i64 ak, .int .u64 au, .int .u64 at_, .int .i64 tr, .bool pd, .string ⟨pth.toArray⟩, .int .u64 la]
    rw [hs0] at h
    exact h
  have bR8 := bR2.below hb2 (by omega)
  have bN8 := bN2.below hb2 (by omega)
  have hB7' := hBf.trans (hb2.mono (by omega))
  have ct8 : (W1.alloc (.cells #[.int .i64 ak, .int .u64 au, .int .u64 at_, .int .i64 tr, .bool pd, .string ⟨pth.toArray⟩, .int .u64 la] 131)).drew.cell? ⟨vb, 2, none⟩ = some (.int .u64 tm) := (cell_of_block (hb2.block vb (by omega)) _).1.trans ct
  clear hS hP2 hb1 hb2 hBf ct bN2 bR2 hs0 hsz2
  generalize (W1.alloc (.cells #[.int .i64 ak, .int .u64 au, .int .u64 at_, .int .i64 tr, .bool pd, .string ⟨pth.toArray⟩, .int .u64 la] 131)).drew = W8 at *
  have hF := Tryz.eFail (w.heap.size + 3) 131 ak au at_ tr tm pd [.string ⟨pth.toArray⟩, .int .u64 la] W8 (by simpa using bL8) h0 h1 t0 t1
  rw [hid_elim HA] at hF
  clear HA bL8
  go_wp2_with (first
    | (go_at_call 168; refine hF.mono ?_; rintro e w3 ⟨rfl, bT3, hS3⟩; have hB3 : Below w.heap.size w w3 := ⟨hS3.os.trans hB7'.os, hS3.tape.trans hB7'.tape, hS3.output.trans hB7'.output, Nat.le_trans hB7'.size hS3.size, fun k hk => (hS3.block k (Nat.lt_of_lt_of_le hk hB7'.size) (by simp; omega)).trans (hB7'.block k hk)⟩; have bR3 := hS3.box bR8 (by simp); have bN3 := hS3.box bN8 (by simp); have n0 := bN3.cell 0 (v := .int .i64 x.1) rfl; have n1 := bN3.cell 1 (v := .int .u64 x.2) rfl; have hE := Tryz.leaRecord (w.heap.size + 3) x.1 x.2 ak au at2 (tr + 1) true pth la w3 (bT3.cell 0 (by simp)) (bT3.cell 1 (by simp)) (bT3.cell 2 (by simp)) (bT3.cell 3 (by simp)) (bT3.cell 4 (by simp)) (bT3.cell 5 (by simp)) (bT3.cell 6 (by simp)); unfold recCells at hE)
    | (go_at_call 67; refine hE.mono ?_; rintro e w4 ⟨rfl, hb4⟩; have hB4 := hB3.trans (hb4.mono hB3.size); have bR4 := bR3.below hb4 bR3.lt; have z0 := bR4.cell 0 (v := .int .i64 0) rfl; have f0 := bR4.frozen 0; have z1 := bR4.cell 1 (v := .int .i64 0) rfl; have f1 := bR4.frozen 1; have z2 := bR4.cell 2 (v := .int .u64 0) rfl; have f2 := bR4.frozen 2; have z3 := bR4.cell 3 (v := .int .i64 0) rfl; have f3 := bR4.frozen 3; have z4 := bR4.cell 4 (v := .int .u64 0) rfl; have f4 := bR4.frozen 4; have z5 := bR4.cell 5 (v := .bool false) rfl; have f5 := bR4.frozen 5; have z6 := bR4.cell 6 (v := .int .u64 0) rfl; have f6 := bR4.frozen 6; have z7 := bR4.cell 7 (v := .int .i64 0) rfl; have f7 := bR4.frozen 7; have z8 := bR4.cell 8 (v := .int .u64 0) rfl; have f8 := bR4.frozen 8; have z9 := bR4.cell 9 (v := .string ⟨#[]⟩) rfl; have f9 := bR4.frozen 9))
  have z0 := bR4.cell 0 (v := .int .i64 0) rfl
  have f0 := bR4.frozen 0
  have z1 := bR4.cell 1 (v := .int .i64 0) rfl
  have f1 := bR4.frozen 1
  have z2 := bR4.cell 2 (v := .int .u64 0) rfl
  have f2 := bR4.frozen 2
  have z3 := bR4.cell 3 (v := .int .i64 0) rfl
  have f3 := bR4.frozen 3
  have z4 := bR4.cell 4 (v := .int .u64 0) rfl
  have f4 := bR4.frozen 4
  have z5 := bR4.cell 5 (v := .bool false) rfl
  have f5 := bR4.frozen 5
  have z6 := bR4.cell 6 (v := .int .u64 0) rfl
  have f6 := bR4.frozen 6
  have z7 := bR4.cell 7 (v := .int .i64 0) rfl
  have f7 := bR4.frozen 7
  have z8 := bR4.cell 8 (v := .int .u64 0) rfl
  have f8 := bR4.frozen 8
  have z9 := bR4.cell 9 (v := .string ⟨#[]⟩) rfl
  have f9 := bR4.frozen 9
  have hfin := ((((((((((bR4.set 0 (.int .i64 1)).set 1 (.int .i64 x.1)).set 2 (.int .u64 x.2)).set 3 (.int .i64 ak)).set 4 (.int .u64 au)).set 5 (.bool true)).set 6 (.int .u64 at2)).set 7 (.int .i64 (tr + 1))).set 8 (.int .u64 la)).set 9 (.string ⟨pth.toArray⟩))
  have r0 := hfin.cell 0 (v := .int .i64 1) (by simp)
  have r1 := hfin.cell 1 (v := .int .i64 x.1) (by simp)
  have r2 := hfin.cell 2 (v := .int .u64 x.2) (by simp)
  have r3 := hfin.cell 3 (v := .int .i64 ak) (by simp)
  have r4 := hfin.cell 4 (v := .int .u64 au) (by simp)
  have r5 := hfin.cell 5 (v := .bool true) (by simp)
  have r6 := hfin.cell 6 (v := .int .u64 at2) (by simp)
  have r7 := hfin.cell 7 (v := .int .i64 (tr + 1)) (by simp)
  have r8 := hfin.cell 8 (v := .int .u64 la) (by simp)
  have r9 := hfin.cell 9 (v := .string ⟨pth.toArray⟩) (by simp)
  have hBw := hid_intro ((((((((((hB4.setCell (p := ⟨w.heap.size + 1, 0, none⟩) (by show w.heap.size ≤ w.heap.size + 1; omega) (.int .i64 1)).setCell (p := ⟨w.heap.size + 1, 1, none⟩) (by show w.heap.size ≤ w.heap.size + 1; omega) (.int .i64 x.1)).setCell (p := ⟨w.heap.size + 1, 2, none⟩) (by show w.heap.size ≤ w.heap.size + 1; omega) (.int .u64 x.2)).setCell (p := ⟨w.heap.size + 1, 3, none⟩) (by show w.heap.size ≤ w.heap.size + 1; omega) (.int .i64 ak)).setCell (p := ⟨w.heap.size + 1, 4, none⟩) (by show w.heap.size ≤ w.heap.size + 1; omega) (.int .u64 au)).setCell (p := ⟨w.heap.size + 1, 5, none⟩) (by show w.heap.size ≤ w.heap.size + 1; omega) (.bool true)).setCell (p := ⟨w.heap.size + 1, 6, none⟩) (by show w.heap.size ≤ w.heap.size + 1; omega) (.int .u64 at2)).setCell (p := ⟨w.heap.size + 1, 7, none⟩) (by show w.heap.size ≤ w.heap.size + 1; omega) (.int .i64 (tr + 1))).setCell (p := ⟨w.heap.size + 1, 8, none⟩) (by show w.heap.size ≤ w.heap.size + 1; omega) (.int .u64 la)).setCell (p := ⟨w.heap.size + 1, 9, none⟩) (by show w.heap.size ≤ w.heap.size + 1; omega) (.string ⟨pth.toArray⟩))
  clear hfin
  exact bodyPost_ret (v := .agg #[.int .i64 1, .int .i64 x.1, .int .u64 x.2, .int .i64 ak, .int .u64 au, .bool true, .int .u64 at2, .int .i64 (tr + 1), .int .u64 la, .string ⟨pth.toArray⟩]) (by simp [results, Tryz.results135, go_sem, r0, r1, r2, r3, r4, r5, r6, r7, r8, r9]) rfl ⟨rfl, hid_elim hBw⟩
end Go.Proofs
