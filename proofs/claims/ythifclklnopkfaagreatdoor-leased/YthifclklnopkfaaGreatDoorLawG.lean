import Derived.Test.YthifclklnopkfaaGreatDoorLawC
/-
  A request that turns nothing: Authorize.
-/
namespace Go.Proofs
open Go.RowKit Go.Sort Go.Lib Go.Shelf Go.Maps

abbrev AutP (wb hb ra sb : Nat) (ss tt : List UInt8) (W : World) : Prop :=
  W.cell? ⟨wb, 0, none⟩ = some (.pointer (some ⟨hb, 0, none⟩)) ∧ W.cell? ⟨wb, 1, none⟩ = some (.pointer (some ⟨ra, 0, none⟩)) ∧ W.cell? ⟨sb, 1, none⟩ = some (.string ⟨ss.toArray⟩) ∧ W.cell? ⟨sb, 2, none⟩ = some (.string ⟨tt.toArray⟩)
theorem AutP.drew {wb hb ra sb : Nat} {ss tt : List UInt8} {W : World} (h : AutP wb hb ra sb ss tt W) : AutP wb hb ra sb ss tt W.drew := h
theorem AutP.mk' {wb hb ra sb : Nat} {st : StepD} {W : World} {t t' : TypeId} {c2 c3 c4 : Value} (hW : BoxN W wb t #[.pointer (some ⟨hb, 0, none⟩), .pointer (some ⟨ra, 0, none⟩), c2, c3, c4]) (hS : BoxN W sb t' st.cells) : AutP wb hb ra sb st.s st.t W :=
  ⟨hW.cell 0 rfl, hW.cell 1 rfl, hS.cell 1 rfl, hS.cell 2 rfl⟩

set_option maxRecDepth 100000 in
set_option maxHeartbeats 4000000 in
theorem Tryz.askAuth (B wb hb ra g cap : Nat) (tm : Int) (L : List ThingD) (tr lr : Int) (w : World) (hR : Tryz.RVAt B w ra g cap L tm tr lr) (hpos : 0 < L.length) (hW : BoxN w wb 48 #[.pointer (some ⟨hb, 0, none⟩), .pointer (some ⟨ra, 0, none⟩), .pointer none, .bool false, .bool false])
    (ss tt : List UInt8) (aa bb ff fl fu ke pa : Int) (r : Bool)
    (hH : ∀ W, Below w.heap.size w W → Calls Tryz.prog 22 #[.pointer (some ⟨hb, 0, none⟩), .string ⟨ss.toArray⟩, .string ⟨tt.toArray⟩] W fun e w' => e = .returned (.bool r) ∧ Below W.heap.size W w')
    (hC : ∀ W, Below w.heap.size w W → Calls Tryz.prog 78 #[.pointer (some ⟨ra, 0, none⟩), .string ⟨ss.toArray⟩, .string ⟨tt.toArray⟩] W fun e w' => e = .returned (.bool r) ∧ Below W.heap.size W w') :
    Calls Tryz.prog 40 #[.pointer (some ⟨wb, 0, none⟩), .agg (StepD.cells ⟨4, ss, tt, aa, bb, ff, fl, fu, ke, pa⟩)] w fun e w' => e = .returned (.bool true) ∧ Below w.heap.size w w' := by
  have lW := hW.lt
  have hb0 : Below w.heap.size w (w.alloc (.cells (StepD.cells ⟨4, ss, tt, aa, bb, ff, fl, fu, ke, pa⟩) 51)) := (Below.refl _ w).alloc (Nat.le_refl _) _
  have bS := BoxN.new w 51 (StepD.cells ⟨4, ss, tt, aa, bb, ff, fl, fu, ke, pa⟩)
  have bW0 := hW.alloc (.cells (StepD.cells ⟨4, ss, tt, aa, bb, ff, fl, fu, ke, pa⟩) 51)
  have hCp := Tryz.rCopy B ra g cap L tm tr lr _ (hR.below hb0) hpos
  rw [World.size_alloc] at hCp
  have w1c := bW0.cell 1 (v := .pointer (some ⟨ra, 0, none⟩)) rfl
  have s0c := bS.cell 0 (v := .int .i64 4) rfl
  simp only [StepD.cells] at *
  go_enter Tryz.func40, Tryz.ntmps40
  go_wp2_with (first
    | (go_at_call 64; refine hCp.mono ?_; rintro e w1 ⟨g', cap', rfl, hR1, hb1⟩; have bS1 := bS.below hb1 (by simp); have s01 := bS1.cell 0 (v := .int .i64 4) rfl))
  have hb1' : Below w.heap.size w w1 := hb0.trans (hb1.mono (by omega))
  have bW1 := bW0.below hb1 (by omega)
  have hP1 : AutP wb hb ra w.heap.size ss tt w1 := AutP.mk' (st := ⟨4, ss, tt, aa, bb, ff, fl, fu, ke, pa⟩) bW1 bS1
  have hH1 := hH w1.drew hb1'.drew
  simp only [AutP] at hP1
  go_region_held3 (AutP wb hb ra w.heap.size ss tt) (first
    | with_reducible exact AutP.drew hP1
    | with_reducible assumption) (first | (go_at_call 22; refine hH1.mono ?_; rintro e w2 ⟨rfl, hb2⟩; have bW2 := BoxN.below (W := w1.drew) bW1 hb2 bW1.lt; have bS2 := BoxN.below (W := w1.drew) bS1 hb2 bS1.lt; have hP2 := AutP.mk' (st := ⟨4, ss, tt, aa, bb, ff, fl, fu, ke, pa⟩) bW2 bS2))
  have hb2' : Below w.heap.size w w2 := hb1'.drew.trans (hb2.mono (by have := hb1'.size; exact this))
  have hC2 := hC w2.drew hb2'.drew
  go_wp2_with fail
  simp only [AutP] at hP2
  go_region_held3 (AutP wb hb ra w.heap.size ss tt) (first
    | with_reducible exact AutP.drew hP2
    | with_reducible assumption) (first | (go_at_call 78; refine hC2.mono ?_; rintro e w3 ⟨rfl, hb3⟩; have bW3 := BoxN.below (W := w2.drew) bW2 hb3 bW2.lt; have bS3 := BoxN.below (W := w2.drew) bS2 hb3 bS2.lt; have hP3 := AutP.mk' (st := ⟨4, ss, tt, aa, bb, ff, fl, fu, ke, pa⟩) bW3 bS3))
  go_wp2
  go_ret
  exact ⟨by first | rfl | simp, hb2'.drew.trans (hb3.mono (by have := hb2'.size; exact this))⟩
end Go.Proofs
