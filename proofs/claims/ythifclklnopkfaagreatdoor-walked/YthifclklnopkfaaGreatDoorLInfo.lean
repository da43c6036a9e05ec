import Derived.Test.YthifclklnopkfaaGreatDoorInfo
import Derived.Deep.DeepCutAuto
/-
  What a lease tells of itself.
-/
namespace Go.Proofs
open Go.RowKit Go.Sort Go.Lib Go.Shelf

theorem six_box {W : World} {q : Nat} {t : TypeId} {c0 c1 c2 c3 c4 c5 : Value} (h : BoxN W q t #[c0, c1, c2, c3, c4, c5]) (v0 v1 v2 v3 v4 v5 : Value) :
    BoxN ((((((W.setCell ⟨q, 0, none⟩ v0).setCell ⟨q, 1, none⟩ v1).setCell ⟨q, 2, none⟩ v2).setCell ⟨q, 3, none⟩ v3).setCell ⟨q, 4, none⟩ v4).setCell ⟨q, 5, none⟩ v5) q t #[v0, v1, v2, v3, v4, v5] :=
  (((((h.set 0 v0).set 1 v1).set 2 v2).set 3 v3).set 4 v4).set 5 v5
theorem Tryz.InfoP.setQ {w0 W : World} {nb b rb : Nat} {k : Int} {u : Nat} {ak : Int} {au : Nat} {at_ tr : Int} {pd : Bool} (h : Tryz.InfoP w0 nb b rb k u ak au at_ tr pd W) (q i : Nat) (v : Value) (hn : nb ≠ q) (hb : b ≠ q) (_hr : rb ≠ q) (hq : w0.heap.size ≤ q) (h6 : 6 ≤ w0.heap.size) : Tryz.InfoP w0 nb b rb k u ak au at_ tr pd (W.setCell ⟨q, i, none⟩ v) := by
  obtain ⟨⟨⟨c0, c1, c2, c3, c4, c5⟩, hrow, hE, h6', hB⟩, hp⟩ := h
  have o : ∀ (p j : Nat), p ≠ q → (W.setCell ⟨q, i, none⟩ v).cell? ⟨p, j, none⟩ = W.cell? ⟨p, j, none⟩ := fun p j hp => World.cell?_setCell_other _ _ _ _ (by simp)
  have hB' := hB.setCell (p := ⟨q, i, none⟩) hq v
  refine ⟨⟨⟨(o _ _ hn).trans c0, (o _ _ hn).trans c1, (o _ _ hb).trans c2, (o _ _ hb).trans c3, (o _ _ hb).trans c4, (o _ _ hb).trans c5⟩, hrow.set _ _, hE.below ((Below.refl w0.heap.size W).setCell (p := ⟨q, i, none⟩) hq v) h6, ?_, hB'⟩, (o _ _ hb).trans hp⟩
  have := hB'.size; omega

set_option maxRecDepth 100000 in
set_option maxHeartbeats 4000000 in
theorem Tryz.leaseInfo (b : Nat) (k : Int) (u : Nat) (ak : Int) (au : Nat) (at_ tr : Int) (pd : Bool) (tm : Int) (pth : List UInt8) (hu : u < 18446744073709551616) (hau : au < 18446744073709551616) (w : World) (hE : Tryz.Env w) (h6 : 6 ≤ w.heap.size)
    (h0 : w.cell? ⟨b, 0, none⟩ = some (.int .i64 ak)) (h1 : w.cell? ⟨b, 1, none⟩ = some (.int .u64 au)) (h2 : w.cell? ⟨b, 2, none⟩ = some (.int .u64 at_)) (h3 : w.cell? ⟨b, 3, none⟩ = some (.int .i64 tr)) (h4 : w.cell? ⟨b, 4, none⟩ = some (.bool pd)) (h5 : w.cell? ⟨b, 5, none⟩ = some (.string ⟨pth.toArray⟩)) :
    Calls Tryz.prog 56 #[.pointer (some ⟨b, 0, none⟩), .agg #[.int .i64 k, .int .u64 u], .int .u64 tm] w fun e w' => e = .returned (.agg (infoCells (nmStr k u) (if (!pd && decide (tm < at_)) then 1 else 2) at_ tr (nmStr ak au) pth)) ∧ Below w.heap.size w w' := by
  have hb : b < w.heap.size := World.block_lt_of_cell? _ _ h0
  have hS1 := fun W (hI : Tryz.InfoP w w.heap.size b (w.heap.size + 1) k u ak au at_ tr pd W) => Tryz.leaseLive b pd at_ tm W hI.2 hI.1.1.2.2.2.2.1
  generalize (!pd && decide (tm < at_)) = lv at *
  have hS2 := fun W (hI : Tryz.InfoP w w.heap.size b (w.heap.size + 1) k u ak au at_ tr pd W) => Tryz.entryInfo b k u ak au at_ tr lv hu hau W hI.1.2.2.1 hI.1.2.2.2.1 hI.1.1.2.2.1 hI.1.1.2.2.2.1 hI.1.1.2.2.2.2.1 hI.1.1.2.2.2.2.2 (Nat.lt_of_lt_of_le hb hI.1.2.2.2.2.size)
  generalize nmStr k u = s1 at *
  generalize nmStr ak au = s2 at *
  unfold infoCells at hS2 ⊢
  generalize (if lv then (1 : Int) else 2) = st at *
  go_enter Tryz.func56, Tryz.ntmps56
  go_wp2_with fail
  go_cut [7] (fun t7 wx => ∃ q : Nat, t7 = .pointer (some ⟨q, 0, none⟩) ∧ (BoxN wx q 40 #[.string ⟨s1.toArray⟩, .int .i64 st, .int .u64 at_, .int .i64 tr, .string ⟨s2.toArray⟩, .string ⟨#[]⟩] ∧ Row6 wx (w.heap.size + 1)) ∧ wx.cell? ⟨b, 5, none⟩ = some (.string ⟨pth.toArray⟩) ∧ Below w.heap.size w wx ∧ w.heap.size + 1 < q)
  case first =>
    go_region_held3 (Tryz.InfoP w w.heap.size b (w.heap.size + 1) k u ak au at_ tr pd) (first
      | with_reducible exact Tryz.InfoP.start hE h6 h0 h1 h2 h3 h4 _ _ _ _ _ _
      | with_reducible exact Tryz.InfoP.below (by assumption) (by assumption)
      | with_reducible assumption
      | with_reducible exact ((((((Tryz.InfoP.setQ (by assumption) _ 0 _ (by omega) (by omega) (by omega) (by omega) h6).setQ _ 1 _ (by omega) (by omega) (by omega) (by omega) h6).setQ _ 2 _ (by omega) (by omega) (by omega) (by omega) h6).setQ _ 3 _ (by omega) (by omega) (by omega) (by omega) h6).setQ _ 4 _ (by omega) (by omega) (by omega) (by omega) h6).setQ _ 5 _ (by omega) (by omega) (by omega) (by omega) h6)
      | with_reducible exact Tryz.InfoP.below (hid_elim hK2) ((Below.refl _ _).alloc (Nat.le_refl _) _)
      | with_reducible exact Tryz.InfoP.below (by assumption) ((Below.refl _ _).alloc (Nat.le_refl _) _)) (first
      | (go_at_call 81; refine (hS1 _ (by assumption)).mono ?_; rintro e w1 ⟨rfl, rfl⟩)
      | (go_at_call 103; refine (hS2 _ (by assumption)).mono ?_; rintro e w2 ⟨rfl, hbS2⟩; have hK2 := hid_intro (Tryz.InfoP.below (show Tryz.InfoP w w.heap.size b (w.heap.size + 1) k u ak au at_ tr pd _ from by assumption) hbS2); obtain ⟨hc2, hf2⟩ := bcell hbS2; have hz2 := hbS2.size))
    · go_wp2_with fail
      go_meet
      case rel =>
        have hI2 := hid_elim hK2
        have hB2 := hI2.1.2.2.2.2.alloc hI2.1.2.2.2.2.size (.cells #[.string ⟨s1.toArray⟩, .int .i64 st, .int .u64 at_, .int .i64 tr, .string ⟨s2.toArray⟩, .string ⟨#[]⟩] 40)
        simp at hz2
        exact ⟨_, rfl, ⟨BoxN.new _ _ _, hI2.1.2.1.below ((Below.refl _ _).alloc (Nat.le_refl _) _)⟩, cell_later hB2 h5, hB2, by omega⟩
    all_goals
      go_wp2_with fail
      go_meet
      case rel =>
        have hI2 := hid_elim hK2
        have b0 := (BoxN.new ((w.alloc (.cells #[.int .i64 k, .int .u64 u] 97)).alloc (.cells #[.string ⟨#[]⟩, .int .i64 0, .int .u64 0, .int .i64 0, .string ⟨#[]⟩, .string ⟨#[]⟩] 40)) 40 #[.string ⟨#[]⟩, .int .i64 0, .int .u64 0, .int .i64 0, .string ⟨#[]⟩, .string ⟨#[]⟩])
        simp only [World.size_alloc] at b0
        have b1 : BoxN w2 (w.heap.size + 1 + 1) 40 #[.string ⟨#[]⟩, .int .i64 0, .int .u64 0, .int .i64 0, .string ⟨#[]⟩, .string ⟨#[]⟩] := (hbS2.block (w.heap.size + 1 + 1) (by simp)).trans b0
        have bF := six_box b1 (.string ⟨s1.toArray⟩) (.int .i64 st) (.int .u64 at_) (.int .i64 tr) (.string ⟨s2.toArray⟩) (.string ⟨#[]⟩)
        have hR := (((((hI2.1.2.1.set ⟨w.heap.size + 1 + 1, 0, none⟩ (.string ⟨s1.toArray⟩)).set ⟨w.heap.size + 1 + 1, 1, none⟩ (.int .i64 st)).set ⟨w.heap.size + 1 + 1, 2, none⟩ (.int .u64 at_)).set ⟨w.heap.size + 1 + 1, 3, none⟩ (.int .i64 tr)).set ⟨w.heap.size + 1 + 1, 4, none⟩ (.string ⟨s2.toArray⟩)).set ⟨w.heap.size + 1 + 1, 5, none⟩ (.string ⟨#[]⟩)
        have hB2 := (((((hI2.1.2.2.2.2.setCell (p := ⟨w.heap.size + 1 + 1, 0, none⟩) (by simp; omega) (.string ⟨s1.toArray⟩)).setCell (p := ⟨w.heap.size + 1 + 1, 1, none⟩) (by simp; omega) (.int .i64 st)).setCell (p := ⟨w.heap.size + 1 + 1, 2, none⟩) (by simp; omega) (.int .u64 at_)).setCell (p := ⟨w.heap.size + 1 + 1, 3, none⟩) (by simp; omega) (.int .i64 tr)).setCell (p := ⟨w.heap.size + 1 + 1, 4, none⟩) (by simp; omega) (.string ⟨s2.toArray⟩)).setCell (p := ⟨w.heap.size + 1 + 1, 5, none⟩) (by simp; omega) (.string ⟨#[]⟩)
        exact ⟨_, rfl, ⟨bF, hR⟩, cell_later hB2 h5, hB2, by omega⟩
  case rest =>
    obtain ⟨q, rfl, ⟨bq, hr⟩, h5', hB, hq⟩ := hcut
    have hne : q ≠ w.heap.size + 1 := by omega
    have q0 := bq.cell 0 (v := .string ⟨s1.toArray⟩) rfl
    have q1 := bq.cell 1 (v := .int .i64 st) rfl
    have q2 := bq.cell 2 (v := .int .u64 at_) rfl
    have q3 := bq.cell 3 (v := .int .i64 tr) rfl
    have q4 := bq.cell 4 (v := .string ⟨s2.toArray⟩) rfl
    have q5 := bq.cell 5 (v := .string ⟨#[]⟩) rfl
    have qf := bq.frozen 5
    have HR := hid_intro (hr.set ⟨q, 5, none⟩ (.string ⟨pth.toArray⟩))
    obtain ⟨⟨r0, r1, r2, r3, r4, r5⟩, f0, f1, f2, f3, f4, f5⟩ := hr
    go_wp2
    obtain ⟨g0, g1, g2, g3, g4, g5⟩ := six_set (hid_elim HR) (.string ⟨s1.toArray⟩) (.int .i64 st) (.int .u64 at_) (.int .i64 tr) (.string ⟨s2.toArray⟩) (.string ⟨pth.toArray⟩)
    have hBF := ((((((hB.setCell (p := ⟨q, 5, none⟩) (by simp; omega) (.string ⟨pth.toArray⟩)).setCell (p := ⟨w.heap.size + 1, 0, none⟩) (by simp) (.string ⟨s1.toArray⟩)).setCell (p := ⟨w.heap.size + 1, 1, none⟩) (by simp) (.int .i64 st)).setCell (p := ⟨w.heap.size + 1, 2, none⟩) (by simp) (.int .u64 at_)).setCell (p := ⟨w.heap.size + 1, 3, none⟩) (by simp) (.int .i64 tr)).setCell (p := ⟨w.heap.size + 1, 4, none⟩) (by simp) (.string ⟨s2.toArray⟩)).setCell (p := ⟨w.heap.size + 1, 5, none⟩) (by simp) (.string ⟨pth.toArray⟩)
    clear r0 r1 r2 r3 r4 r5 q0 q1 q2 q3 q4 q5
    exact bodyPost_ret (v := .agg #[.string ⟨s1.toArray⟩, .int .i64 st, .int .u64 at_, .int .i64 tr, .string ⟨s2.toArray⟩, .string ⟨pth.toArray⟩]) (by simp [results, Tryz.results56, go_sem, g0, g1, g2, g3, g4, g5]) rfl ⟨rfl, hBF⟩
end Go.Proofs
