import Derived.Test.YthifclklnopkfaaGreatDoorPlainB
import Derived.Test.YthifclklnopkfaaGreatDoorKeysIter
import Derived.Test.YthifclklnopkfaaGreatDoorIsW
/-
  leasekeeper.Open over an empty disk.
-/
namespace Go.Proofs
open Go.RowKit Go.Sort Go.Maps Go.WideMaps

theorem ownsMap_below {H : Type} {P : Program} {k : TypeId} {R : Value → Option (DataW H × List MemPlace)} {D : DataW H} {W W' : World} {b n : Nat} (h : W.ownsMap P k R b n D) (hb : Below W.heap.size W W') : W'.ownsMap P k R b n D :=
  h.kept (row := none) ⟨hb.os, hb.tape, hb.output, hb.size, fun k hk _ => hb.block k hk⟩ (by simp)

set_option maxRecDepth 100000 in
set_option maxHeartbeats 2000000 in
theorem Tryz.open_ (dv : Value) (rb : Nat) (now : Int) (w : World) :
    Calls Tryz.prog 32 #[dv, .iface 61 (.pointer (some ⟨rb, 0, none⟩)), .int .u64 now] w fun e w' => ∃ vb mt ml bt n, e = .returned (.tuple #[.pointer (some ⟨vb, 0, none⟩), .nilIface]) ∧ BoxN w' vb 108 #[.iface 61 (.pointer (some ⟨rb, 0, none⟩)), .int .u64 now, .map (some mt), .map (some ml), .int .u64 0, .int .u64 0, .bool false, .slice none 0 0] ∧
      w'.ownsMap Tryz.prog 97 ptrR mt n (mapD [((1, 0), bt)]) ∧ n ≤ 1 ∧ w'.ownsMap Tryz.prog 97 ptrR ml 0 (.map []) ∧ BoxN w' bt 133 #[.int .i64 0, .int .u64 0, .int .u64 18446744073709551615, .int .i64 0, .bool false] ∧ Below w.heap.size w w' ∧ (w.heap.size ≤ vb ∧ w.heap.size ≤ mt ∧ w.heap.size ≤ ml ∧ w.heap.size ≤ bt ∧ mt ≠ ml) := by
  have hmk : ∀ W, (Instr.makeMap 102 none).run Tryz.prog W = .ok (.map (some W.heap.size)) (W.alloc (.map #[] 0)) := fun W => run_makeMap _ W
  have hmk2 : ∀ W, (Instr.makeMap 103 none).run Tryz.prog W = .ok (.map (some W.heap.size)) (W.alloc (.map #[] 0)) := fun W => run_makeMap _ W
  have hR := fun W => Tryz.root W
  unfold nmV at hR
  have bT := (BoxN.new w 133 #[.int .i64 0, .int .u64 0, .int .u64 18446744073709551615, .int .i64 0, .bool false]).alloc (.map #[] 0)
  have hM := World.ownsMap_made (w.alloc (.cells #[.int .i64 0, .int .u64 0, .int .u64 18446744073709551615, .int .i64 0, .bool false] 133)) Tryz.prog 97 ptrR
  have hB : Below w.heap.size w ((w.alloc (.cells #[.int .i64 0, .int .u64 0, .int .u64 18446744073709551615, .int .i64 0, .bool false] 133)).alloc (.map #[] 0)) := ((Below.refl _ w).alloc (Nat.le_refl _) _).alloc (by simp) _
  have hsz : ((w.alloc (.cells #[.int .i64 0, .int .u64 0, .int .u64 18446744073709551615, .int .i64 0, .bool false] 133)).alloc (.map #[] 0)).heap.size = w.heap.size + 2 := by simp
  simp only [World.size_alloc] at hM
  go_enter Tryz.func32, Tryz.ntmps32
  go_wp2_with (first
    | (go_at_call 57; refine (hR _).mono ?_; rintro e w1 ⟨rfl, hb1⟩; have bT1 := bT.below hb1 (by rw [hsz]; omega); have hM1 := ownsMap_below hM hb1; have hB1 := hB.trans (hb1.mono (by rw [hsz]; omega)); obtain ⟨w2, hrun, hM2, hT2⟩ := hM1.store Tryz.keyedName Tryz.underlying102 (by decide) (key := nmV (1, 0)) (val := .pointer (some ⟨w.heap.size, 0, none⟩)) (Tryz.nmType.keyOf ⟨by decide, by decide⟩) (d := .lit (.int .u64 w.heap.size)) (ps := []) rfl; have bT2 := bT1.kept hT2.grown (by simp); have hB2 := hB1.grown hT2.grown (by have := hB1.size; omega) (fun q hq => by cases hq; omega); unfold nmV at hrun)
    | fail)
  exact bodyPost_ret (v := .tuple #[.pointer (some ⟨w2.heap.size + 1, 0, none⟩), .nilIface]) (by simp [results, Tryz.results32, go_sem]) rfl ⟨w2.heap.size + 1, w.heap.size + 1, w2.heap.size, w.heap.size, 1, rfl, by have h := BoxN.new (w2.alloc (.map #[] 0)) 108 #[.iface 61 (.pointer (some ⟨rb, 0, none⟩)), .int .u64 now, .map (some (w.heap.size + 1)), .map (some w2.heap.size), .int .u64 0, .int .u64 0, .bool false, .slice none 0 0]; rwa [World.size_alloc] at h, (hM2.alloc _).alloc _, by omega, (World.ownsMap_made w2 Tryz.prog 97 ptrR).alloc _, (bT2.alloc _).alloc _, (hB2.alloc hB2.size _).alloc (by have := hB2.size; simp; omega) _, by have h1 := hT2.grown.size; have h2 := hb1.size; rw [hsz] at h2; omega⟩
end Go.Proofs

/-
  plain.Host.Open over an empty disk.
-/
namespace Go.Proofs
open Go.RowKit Go.Sort Go.Maps Go.WideMaps

abbrev HostP (hb db rb : Nat) (W : World) : Prop := W.cell? ⟨hb, 0, none⟩ = some (.pointer (some ⟨db, 0, none⟩)) ∧ W.cell? ⟨hb, 1, none⟩ = some (.pointer (some ⟨rb, 0, none⟩))
theorem HostP.drew {hb db rb : Nat} {W : World} (h : HostP hb db rb W) : HostP hb db rb W.drew := h

set_option maxRecDepth 100000 in
set_option maxHeartbeats 2000000 in
theorem Tryz.hOpen (B hb db rb : Nat) (vv m1 m2 p l f : Value) (now a b c d : Int) (w : World) (hH : BoxN w hb 64 #[.pointer (some ⟨db, 0, none⟩), .pointer (some ⟨rb, 0, none⟩), vv]) (hD : BoxN w db 76 #[m1, m2, p, l, f, .bool false]) (hB0 : B ≤ hb) (hB1 : B ≤ db) :
    Calls Tryz.prog 17 #[.pointer (some ⟨hb, 0, none⟩), .int .u64 now, fallV a b c d] w fun e w' => ∃ vb mt ml bt n, e = .returned (.int .i64 0) ∧ BoxN w' hb 64 #[.pointer (some ⟨db, 0, none⟩), .pointer (some ⟨rb, 0, none⟩), .pointer (some ⟨vb, 0, none⟩)] ∧
      BoxN w' db 76 #[m1, m2, p, .int .i64 (-1), .int .i64 (-1), .bool false] ∧
      BoxN w' vb 108 #[.iface 61 (.pointer (some ⟨rb, 0, none⟩)), .int .u64 now, .map (some mt), .map (some ml), .int .u64 0, .int .u64 0, .bool false, .slice none 0 0] ∧
      w'.ownsMap Tryz.prog 97 ptrR mt n (mapD [((1, 0), bt)]) ∧ n ≤ 1 ∧ w'.ownsMap Tryz.prog 97 ptrR ml 0 (.map []) ∧ BoxN w' bt 133 #[.int .i64 0, .int .u64 0, .int .u64 18446744073709551615, .int .i64 0, .bool false] ∧ Below B w w' ∧ (B ≤ vb ∧ B ≤ mt ∧ B ≤ ml ∧ B ≤ bt ∧ mt ≠ ml) := by
  have hne := hH.ne hD (by decide)
  have lH := hH.lt
  have lD := hD.lt
  have bF := BoxN.new w 29 #[.int .i64 a, .int .i64 b, .int .i64 c, .int .i64 d]
  have hBf := Tryz.before hb db _ _ _ _ _ _ _ _ a b c d _ (hH.alloc (.cells #[.int .i64 a, .int .i64 b, .int .i64 c, .int .i64 d] 29)) (hD.alloc _)
  unfold fallV at hBf ⊢
  go_enter Tryz.func17, Tryz.ntmps17
  go_wp2_with (go_at_call 26; refine hBf.mono ?_; rintro e w1 ⟨rfl, bD1, hg1⟩)
  have bH1 := (hH.alloc (.cells #[.int .i64 a, .int .i64 b, .int .i64 c, .int .i64 d] 29)).kept hg1 (by simpa using hne)
  have bF1 := bF.kept hg1 (by simp; omega)
  have hP1 : HostP hb db rb w1 := ⟨bH1.cell 0 rfl, bH1.cell 1 rfl⟩
  have l1 := bH1.lt
  have HG1 := hid_intro hg1
  clear hg1 hBf
  go_region_held3 (HostP hb db rb) (first
    | with_reducible exact HostP.drew hP1
    | with_reducible assumption) (first | (go_at_call 32; refine (Tryz.open_ _ rb now _).mono ?_; rintro e w2 ⟨vb, mt, ml, bt, n, rfl, bV, hM, hn, hL, bT, hb2, hvb, hmt, hml, hbt, hmm⟩; have bH2 := BoxN.below (W := w1.drew) bH1 hb2 bH1.lt; have hP2 : HostP hb db rb w2 := ⟨bH2.cell 0 rfl, bH2.cell 1 rfl⟩))
  have bF2 := BoxN.below (W := w1.drew) bF1 hb2 bF1.lt
  have bD2 := BoxN.below (W := w1.drew) bD1 hb2 bD1.lt
  have nF : w.heap.size ≠ hb := by omega
  have nV : vb ≠ hb := by have : hb < w1.drew.heap.size := l1; omega
  have nT := bT.ne bH2 (by decide)
  have bH3 := bH2.set 2 (.pointer (some ⟨vb, 0, none⟩))
  have bF3 := bF2.other nF 2 (.pointer (some ⟨vb, 0, none⟩))
  have bD3 := bD2.other (Ne.symm hne) 2 (.pointer (some ⟨vb, 0, none⟩))
  have bV3 := bV.other nV 2 (.pointer (some ⟨vb, 0, none⟩))
  have bT3 := bT.other nT 2 (.pointer (some ⟨vb, 0, none⟩))
  have hM3 := hM.setCell (a := ⟨hb, 2, none⟩) (bH2.ne_map hM) (.pointer (some ⟨vb, 0, none⟩))
  have hL3 := hL.setCell (a := ⟨hb, 2, none⟩) (bH2.ne_map hL) (.pointer (some ⟨vb, 0, none⟩))
  have hB3 : Below B w (w2.setCell ⟨hb, 2, none⟩ (.pointer (some ⟨vb, 0, none⟩))) := ((((Below.refl B w).alloc (by omega) _).grown (hid_elim HG1) (by simp; omega) (fun q hq => by cases hq; exact hB1)).drew.trans (hb2.mono (by show B ≤ w1.heap.size; omega))).setCell (p := ⟨hb, 2, none⟩) hB0 _
  have hBa := Tryz.after hb db _ _ _ _ _ _ _ a b c d _ bH3 bD3
  have fz := bH2.frozen 2
  have h2 := bH2.cell 2 (v := vv) rfl
  have g0 := bF2.cell 0 (v := .int .i64 a) rfl
  have g1 := bF2.cell 1 (v := .int .i64 b) rfl
  have g2 := bF2.cell 2 (v := .int .i64 c) rfl
  have g3 := bF2.cell 3 (v := .int .i64 d) rfl
  unfold fallV at hBa
  go_wp2_with (first
    | (go_at_call 28; refine hBa.mono ?_; rintro e w4 ⟨rfl, bD4, hg4⟩)
    | (go_at_call 29; refine (Tryz.told_nil _).mono ?_; rintro e w5 ⟨rfl, hb5⟩))
  go_ret
  have kH := bH3.kept hg4 (by intro e; injection e with e; exact hne e)
  have kV := bV3.kept hg4 (by intro e; injection e with e; exact bV3.ne bD3 (by decide) e)
  have kT := bT3.kept hg4 (by intro e; injection e with e; exact bT3.ne bD3 (by decide) e)
  have kM := hM3.kept hg4 (by intro e; injection e with e; exact bD3.ne_map hM3 e)
  have kL := hL3.kept hg4 (by intro e; injection e with e; exact bD3.ne_map hL3 e)
  have hB4 := hB3.grown hg4 (by simp; have := hb2.size; have : hb < w1.drew.heap.size := l1; omega) (fun q hq => by cases hq; exact hB1)
  exact ⟨vb, mt, ml, bt, n, rfl, kH.below hb5 kH.lt, bD4.below hb5 bD4.lt, kV.below hb5 kV.lt, ownsMap_below kM hb5, hn, ownsMap_below kL hb5, kT.below hb5 kT.lt, hB4.trans (hb5.mono (by have := kH.lt; omega)), by have : w1.drew.heap.size = w1.heap.size := rfl; omega⟩
end Go.Proofs
