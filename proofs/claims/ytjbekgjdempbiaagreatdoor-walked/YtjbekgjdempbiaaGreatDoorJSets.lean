import Derived.Test.YtjbekgjdempbiaaGreatDoorJRefI
/-
  Blocks of five, seven and ten cells: their cells, and a struct stored into one.
-/
namespace Go.Proofs
open Go.RowKit Go.Sort

theorem BoxN.open5 {W : World} {q : Nat} {t : TypeId} {c0 c1 c2 c3 c4 : Value} (h : BoxN W q t #[c0, c1, c2, c3, c4]) : (W.cell? ⟨q, 0, none⟩ = some c0 ∧ W.cell? ⟨q, 1, none⟩ = some c1 ∧ W.cell? ⟨q, 2, none⟩ = some c2 ∧ W.cell? ⟨q, 3, none⟩ = some c3 ∧ W.cell? ⟨q, 4, none⟩ = some c4) ∧ (W.frozen? ⟨q, 0, none⟩ = false ∧ W.frozen? ⟨q, 1, none⟩ = false ∧ W.frozen? ⟨q, 2, none⟩ = false ∧ W.frozen? ⟨q, 3, none⟩ = false ∧ W.frozen? ⟨q, 4, none⟩ = false) :=
  ⟨⟨h.cell 0 rfl, h.cell 1 rfl, h.cell 2 rfl, h.cell 3 rfl, h.cell 4 rfl⟩, ⟨h.frozen 0, h.frozen 1, h.frozen 2, h.frozen 3, h.frozen 4⟩⟩
theorem BoxN.sets5 {W : World} {q : Nat} {t : TypeId} {c0 c1 c2 c3 c4 : Value} (h : BoxN W q t #[c0, c1, c2, c3, c4]) (v0 v1 v2 v3 v4 : Value) : BoxN (((((W.setCell ⟨q, 0, none⟩ v0).setCell ⟨q, 1, none⟩ v1).setCell ⟨q, 2, none⟩ v2).setCell ⟨q, 3, none⟩ v3).setCell ⟨q, 4, none⟩ v4) q t #[v0, v1, v2, v3, v4] := by
  have h1 : BoxN (W.setCell ⟨q, 0, none⟩ v0) q t #[v0, c1, c2, c3, c4] := h.set 0 v0
  have h2 : BoxN ((W.setCell ⟨q, 0, none⟩ v0).setCell ⟨q, 1, none⟩ v1) q t #[v0, v1, c2, c3, c4] := h1.set 1 v1
  have h3 : BoxN (((W.setCell ⟨q, 0, none⟩ v0).setCell ⟨q, 1, none⟩ v1).setCell ⟨q, 2, none⟩ v2) q t #[v0, v1, v2, c3, c4] := h2.set 2 v2
  have h4 : BoxN ((((W.setCell ⟨q, 0, none⟩ v0).setCell ⟨q, 1, none⟩ v1).setCell ⟨q, 2, none⟩ v2).setCell ⟨q, 3, none⟩ v3) q t #[v0, v1, v2, v3, c4] := h3.set 3 v3
  have h5 : BoxN (((((W.setCell ⟨q, 0, none⟩ v0).setCell ⟨q, 1, none⟩ v1).setCell ⟨q, 2, none⟩ v2).setCell ⟨q, 3, none⟩ v3).setCell ⟨q, 4, none⟩ v4) q t #[v0, v1, v2, v3, v4] := h4.set 4 v4
  exact h5
theorem belowSets5 {B : Nat} {w W : World} (hb : Below B w W) {q : Nat} (hq : B ≤ q) (v0 v1 v2 v3 v4 : Value) : Below B w (((((W.setCell ⟨q, 0, none⟩ v0).setCell ⟨q, 1, none⟩ v1).setCell ⟨q, 2, none⟩ v2).setCell ⟨q, 3, none⟩ v3).setCell ⟨q, 4, none⟩ v4) := (((((hb.setCell (p := ⟨q, 0, none⟩) hq v0).setCell (p := ⟨q, 1, none⟩) hq v1).setCell (p := ⟨q, 2, none⟩) hq v2).setCell (p := ⟨q, 3, none⟩) hq v3).setCell (p := ⟨q, 4, none⟩) hq v4)
abbrev Row5 (W : World) (rb : Nat) : Prop :=
  (W.cell? ⟨rb, 0, none⟩ = some (cellOr W ⟨rb, 0, none⟩) ∧ W.cell? ⟨rb, 1, none⟩ = some (cellOr W ⟨rb, 1, none⟩) ∧ W.cell? ⟨rb, 2, none⟩ = some (cellOr W ⟨rb, 2, none⟩) ∧ W.cell? ⟨rb, 3, none⟩ = some (cellOr W ⟨rb, 3, none⟩) ∧ W.cell? ⟨rb, 4, none⟩ = some (cellOr W ⟨rb, 4, none⟩)) ∧
  (W.frozen? ⟨rb, 0, none⟩ = false ∧ W.frozen? ⟨rb, 1, none⟩ = false ∧ W.frozen? ⟨rb, 2, none⟩ = false ∧ W.frozen? ⟨rb, 3, none⟩ = false ∧ W.frozen? ⟨rb, 4, none⟩ = false)
theorem Row5.below {W W' : World} {rb : Nat} (h : Row5 W rb) (hb : Below W.heap.size W W') : Row5 W' rb := by
  have hlt : rb < W.heap.size := World.block_lt_of_cell? _ _ h.1.1
  have c : ∀ i, W'.cell? ⟨rb, i, none⟩ = W.cell? ⟨rb, i, none⟩ := fun i => hb.cell (p := ⟨rb, i, none⟩) hlt
  have f : ∀ i, W'.frozen? ⟨rb, i, none⟩ = W.frozen? ⟨rb, i, none⟩ := fun i => hb.frozen (p := ⟨rb, i, none⟩) hlt
  have e : ∀ i, cellOr W' ⟨rb, i, none⟩ = cellOr W ⟨rb, i, none⟩ := fun i => by unfold cellOr; rw [c i]
  simp only [Row5, c, f, e]
  exact h
theorem Row5.mk {W : World} {rb : Nat} (h : ∀ i, i < 5 → (W.cell? ⟨rb, i, none⟩).isSome) (f : ∀ i, i < 5 → W.frozen? ⟨rb, i, none⟩ = false) : Row5 W rb :=
  ⟨⟨cellOr_some (h 0 (by omega)), cellOr_some (h 1 (by omega)), cellOr_some (h 2 (by omega)), cellOr_some (h 3 (by omega)), cellOr_some (h 4 (by omega))⟩, f 0 (by omega), f 1 (by omega), f 2 (by omega), f 3 (by omega), f 4 (by omega)⟩
theorem BoxN.row5 {W : World} {q : Nat} {t : TypeId} {c0 c1 c2 c3 c4 : Value} (h : BoxN W q t #[c0, c1, c2, c3, c4]) : Row5 W q := by
  refine Row5.mk (fun i hi => ?_) (fun i _ => h.frozen i)
  rw [h.cell i (v := #[c0, c1, c2, c3, c4][i]) (by simp [hi])]
  rfl
theorem Row5.set {W : World} {rb : Nat} (h : Row5 W rb) (a : Addr) (v : Value) : Row5 (W.setCell a v) rb := by
  obtain ⟨⟨c0, c1, c2, c3, c4⟩, f0, f1, f2, f3, f4⟩ := h
  have g : ∀ i, (W.cell? ⟨rb, i, none⟩).isSome → ((W.setCell a v).cell? ⟨rb, i, none⟩).isSome := fun i hi => by
    obtain ⟨x, hx⟩ := Option.isSome_iff_exists.1 hi
    obtain ⟨y, hy⟩ := cell?_setCell_some (w := W) (p := a) (x := v) hx
    rw [hy]; rfl
  have f : ∀ i, (W.setCell a v).frozen? ⟨rb, i, none⟩ = W.frozen? ⟨rb, i, none⟩ := fun i => World.frozen?_setCell _ _ _ _
  exact ⟨⟨cellOr_some (g 0 (by rw [c0]; rfl)), cellOr_some (g 1 (by rw [c1]; rfl)), cellOr_some (g 2 (by rw [c2]; rfl)), cellOr_some (g 3 (by rw [c3]; rfl)), cellOr_some (g 4 (by rw [c4]; rfl))⟩, (f 0).trans f0, (f 1).trans f1, (f 2).trans f2, (f 3).trans f3, (f 4).trans f4⟩
theorem Row5.sets {W : World} {rb : Nat} (h : Row5 W rb) (v0 v1 v2 v3 v4 : Value) : (((((W.setCell ⟨rb, 0, none⟩ v0).setCell ⟨rb, 1, none⟩ v1).setCell ⟨rb, 2, none⟩ v2).setCell ⟨rb, 3, none⟩ v3).setCell ⟨rb, 4, none⟩ v4).cell? ⟨rb, 0, none⟩ = some v0 ∧ (((((W.setCell ⟨rb, 0, none⟩ v0).setCell ⟨rb, 1, none⟩ v1).setCell ⟨rb, 2, none⟩ v2).setCell ⟨rb, 3, none⟩ v3).setCell ⟨rb, 4, none⟩ v4).cell? ⟨rb, 1, none⟩ = some v1 ∧ (((((W.setCell ⟨rb, 0, none⟩ v0).setCell ⟨rb, 1, none⟩ v1).setCell ⟨rb, 2, none⟩ v2).setCell ⟨rb, 3, none⟩ v3).setCell ⟨rb, 4, none⟩ v4).cell? ⟨rb, 2, none⟩ = some v2 ∧ (((((W.setCell ⟨rb, 0, none⟩ v0).setCell ⟨rb, 1, none⟩ v1).setCell ⟨rb, 2, none⟩ v2).setCell ⟨rb, 3, none⟩ v3).setCell ⟨rb, 4, none⟩ v4).cell? ⟨rb, 3, none⟩ = some v3 ∧ (((((W.setCell ⟨rb, 0, none⟩ v0).setCell ⟨rb, 1, none⟩ v1).setCell ⟨rb, 2, none⟩ v2).setCell ⟨rb, 3, none⟩ v3).setCell ⟨rb, 4, none⟩ v4).cell? ⟨rb, 4, none⟩ = some v4 := by
  have o : ∀ (V : World) (i j : Nat) (v : Value), i ≠ j → (V.setCell ⟨rb, i, none⟩ v).cell? ⟨rb, j, none⟩ = V.cell? ⟨rb, j, none⟩ := fun V i j v _ => World.cell?_setCell_other _ _ _ _ (by simp)
  have h0 := h
  have h1 := h0.set ⟨rb, 0, none⟩ v0
  have h2 := h1.set ⟨rb, 1, none⟩ v1
  have h3 := h2.set ⟨rb, 2, none⟩ v2
  have h4 := h3.set ⟨rb, 3, none⟩ v3
  have s0 := World.cell?_setCell_same _ _ v0 h0.1.1
  have s1 := World.cell?_setCell_same _ _ v1 h1.1.2.1
  have s2 := World.cell?_setCell_same _ _ v2 h2.1.2.2.1
  have s3 := World.cell?_setCell_same _ _ v3 h3.1.2.2.2.1
  have s4 := World.cell?_setCell_same _ _ v4 h4.1.2.2.2.2
  refine ⟨?_, ?_, ?_, ?_, s4⟩
  · rw [o _ 4 0 _ (by omega), o _ 3 0 _ (by omega), o _ 2 0 _ (by omega), o _ 1 0 _ (by omega), s0]
  · rw [o _ 4 1 _ (by omega), o _ 3 1 _ (by omega), o _ 2 1 _ (by omega), s1]
  · rw [o _ 4 2 _ (by omega), o _ 3 2 _ (by omega), s2]
  · rw [o _ 4 3 _ (by omega), s3]
theorem BoxN.open7 {W : World} {q : Nat} {t : TypeId} {c0 c1 c2 c3 c4 c5 c6 : Value} (h : BoxN W q t #[c0, c1, c2, c3, c4, c5, c6]) : (W.cell? ⟨q, 0, none⟩ = some c0 ∧ W.cell? ⟨q, 1, none⟩ = some c1 ∧ W.cell? ⟨q, 2, none⟩ = some c2 ∧ W.cell? ⟨q, 3, none⟩ = some c3 ∧ W.cell? ⟨q, 4, none⟩ = some c4 ∧ W.cell? ⟨q, 5, none⟩ = some c5 ∧ W.cell? ⟨q, 6, none⟩ = some c6) ∧ (W.frozen? ⟨q, 0, none⟩ = false ∧ W.frozen? ⟨q, 1, none⟩ = false ∧ W.frozen? ⟨q, 2, none⟩ = false ∧ W.frozen? ⟨q, 3, none⟩ = false ∧ W.frozen? ⟨q, 4, none⟩ = false ∧ W.frozen? ⟨q, 5, none⟩ = false ∧ W.frozen? ⟨q, 6, none⟩ = false) :=
  ⟨⟨h.cell 0 rfl, h.cell 1 rfl, h.cell 2 rfl, h.cell 3 rfl, h.cell 4 rfl, h.cell 5 rfl, h.cell 6 rfl⟩, ⟨h.frozen 0, h.frozen 1, h.frozen 2, h.frozen 3, h.frozen 4, h.frozen 5, h.frozen 6⟩⟩
theorem BoxN.sets7 {W : World} {q : Nat} {t : TypeId} {c0 c1 c2 c3 c4 c5 c6 : Value} (h : BoxN W q t #[c0, c1, c2, c3, c4, c5, c6]) (v0 v1 v2 v3 v4 v5 v6 : Value) : BoxN (((((((W.setCell ⟨q, 0, none⟩ v0).setCell ⟨q, 1, none⟩ v1).setCell ⟨q, 2, none⟩ v2).setCell ⟨q, 3, none⟩ v3).setCell ⟨q, 4, none⟩ v4).setCell ⟨q, 5, none⟩ v5).setCell ⟨q, 6, none⟩ v6) q t #[v0, v1, v2, v3, v4, v5, v6] := by
  have h1 : BoxN (W.setCell ⟨q, 0, none⟩ v0) q t #[v0, c1, c2, c3, c4, c5, c6] := h.set 0 v0
  have h2 : BoxN ((W.setCell ⟨q, 0, none⟩ v0).setCell ⟨q, 1, none⟩ v1) q t #[v0, v1, c2, c3, c4, c5, c6] := h1.set 1 v1
  have h3 : BoxN (((W.setCell ⟨q, 0, none⟩ v0).setCell ⟨q, 1, none⟩ v1).setCell ⟨q, 2, none⟩ v2) q t #[v0, v1, v2, c3, c4, c5, c6] := h2.set 2 v2
  have h4 : BoxN ((((W.setCell ⟨q, 0, none⟩ v0).setCell ⟨q, 1, none⟩ v1).setCell ⟨q, 2, none⟩ v2).setCell ⟨q, 3, none⟩ v3) q t #[v0, v1, v2, v3, c4, c5, c6] := h3.set 3 v3
  have h5 : BoxN (((((W.setCell ⟨q, 0, none⟩ v0).setCell ⟨q, 1, none⟩ v1).setCell ⟨q, 2, none⟩ v2).setCell ⟨q, 3, none⟩ v3).setCell ⟨q, 4, none⟩ v4) q t #[v0, v1, v2, v3, v4, c5, c6] := h4.set 4 v4
  have h6 : BoxN ((((((W.setCell ⟨q, 0, none⟩ v0).setCell ⟨q, 1, none⟩ v1).setCell ⟨q, 2, none⟩ v2).setCell ⟨q, 3, none⟩ v3).setCell ⟨q, 4, none⟩ v4).setCell ⟨q, 5, none⟩ v5) q t #[v0, v1, v2, v3, v4, v5, c6] := h5.set 5 v5
  have h7 : BoxN (((((((W.setCell ⟨q, 0, none⟩ v0).setCell ⟨q, 1, none⟩ v1).setCell ⟨q, 2, none⟩ v2).setCell ⟨q, 3, none⟩ v3).setCell ⟨q, 4, none⟩ v4).setCell ⟨q, 5, none⟩ v5).setCell ⟨q, 6, none⟩ v6) q t #[v0, v1, v2, v3, v4, v5, v6] := h6.set 6 v6
  exact h7
theorem belowSets7 {B : Nat} {w W : World} (hb : Below B w W) {q : Nat} (hq : B ≤ q) (v0 v1 v2 v3 v4 v5 v6 : Value) : Below B w (((((((W.setCell ⟨q, 0, none⟩ v0).setCell ⟨q, 1, none⟩ v1).setCell ⟨q, 2, none⟩ v2).setCell ⟨q, 3, none⟩ v3).setCell ⟨q, 4, none⟩ v4).setCell ⟨q, 5, none⟩ v5).setCell ⟨q, 6, none⟩ v6) := (((((((hb.setCell (p := ⟨q, 0, none⟩) hq v0).setCell (p := ⟨q, 1, none⟩) hq v1).setCell (p := ⟨q, 2, none⟩) hq v2).setCell (p := ⟨q, 3, none⟩) hq v3).setCell (p := ⟨q, 4, none⟩) hq v4).setCell (p := ⟨q, 5, none⟩) hq v5).setCell (p := ⟨q, 6, none⟩) hq v6)
abbrev Row7 (W : World) (rb : Nat) : Prop :=
  (W.cell? ⟨rb, 0, none⟩ = some (cellOr W ⟨rb, 0, none⟩) ∧ W.cell? ⟨rb, 1, none⟩ = some (cellOr W ⟨rb, 1, none⟩) ∧ W.cell? ⟨rb, 2, none⟩ = some (cellOr W ⟨rb, 2, none⟩) ∧ W.cell? ⟨rb, 3, none⟩ = some (cellOr W ⟨rb, 3, none⟩) ∧ W.cell? ⟨rb, 4, none⟩ = some (cellOr W ⟨rb, 4, none⟩) ∧ W.cell? ⟨rb, 5, none⟩ = some (cellOr W ⟨rb, 5, none⟩) ∧ W.cell? ⟨rb, 6, none⟩ = some (cellOr W ⟨rb, 6, none⟩)) ∧
  (W.frozen? ⟨rb, 0, none⟩ = false ∧ W.frozen? ⟨rb, 1, none⟩ = false ∧ W.frozen? ⟨rb, 2, none⟩ = false ∧ W.frozen? ⟨rb, 3, none⟩ = false ∧ W.frozen? ⟨rb, 4, none⟩ = false ∧ W.frozen? ⟨rb, 5, none⟩ = false ∧ W.frozen? ⟨rb, 6, none⟩ = false)
theorem Row7.below {W W' : World} {rb : Nat} (h : Row7 W rb) (hb : Below W.heap.size W W') : Row7 W' rb := by
  have hlt : rb < W.heap.size := World.block_lt_of_cell? _ _ h.1.1
  have c : ∀ i, W'.cell? ⟨rb, i, none⟩ = W.cell? ⟨rb, i, none⟩ := fun i => hb.cell (p := ⟨rb, i, none⟩) hlt
  have f : ∀ i, W'.frozen? ⟨rb, i, none⟩ = W.frozen? ⟨rb, i, none⟩ := fun i => hb.frozen (p := ⟨rb, i, none⟩) hlt
  have e : ∀ i, cellOr W' ⟨rb, i, none⟩ = cellOr W ⟨rb, i, none⟩ := fun i => by unfold cellOr; rw [c i]
  simp only [Row7, c, f, e]
  exact h
theorem Row7.mk {W : World} {rb : Nat} (h : ∀ i, i < 7 → (W.cell? ⟨rb, i, none⟩).isSome) (f : ∀ i, i < 7 → W.frozen? ⟨rb, i, none⟩ = false) : Row7 W rb :=
  ⟨⟨cellOr_some (h 0 (by omega)), cellOr_some (h 1 (by omega)), cellOr_some (h 2 (by omega)), cellOr_some (h 3 (by omega)), cellOr_some (h 4 (by omega)), cellOr_some (h 5 (by omega)), cellOr_some (h 6 (by omega))⟩, f 0 (by omega), f 1 (by omega), f 2 (by omega), f 3 (by omega), f 4 (by omega), f 5 (by omega), f 6 (by omega)⟩
theorem BoxN.row7 {W : World} {q : Nat} {t : TypeId} {c0 c1 c2 c3 c4 c5 c6 : Value} (h : BoxN W q t #[c0, c1, c2, c3, c4, c5, c6]) : Row7 W q := by
  refine Row7.mk (fun i hi => ?_) (fun i _ => h.frozen i)
  rw [h.cell i (v := #[c0, c1, c2, c3, c4, c5, c6][i]) (by simp [hi])]
  rfl
theorem Row7.set {W : World} {rb : Nat} (h : Row7 W rb) (a : Addr) (v : Value) : Row7 (W.setCell a v) rb := by
  obtain ⟨⟨c0, c1, c2, c3, c4, c5, c6⟩, f0, f1, f2, f3, f4, f5, f6⟩ := h
  have g : ∀ i, (W.cell? ⟨rb, i, none⟩).isSome → ((W.setCell a v).cell? ⟨rb, i, none⟩).isSome := fun i hi => by
    obtain ⟨x, hx⟩ := Option.isSome_iff_exists.1 hi
    obtain ⟨y, hy⟩ := cell?_setCell_some (w := W) (p := a) (x := v) hx
    rw [hy]; rfl
  have f : ∀ i, (W.setCell a v).frozen? ⟨rb, i, none⟩ = W.frozen? ⟨rb, i, none⟩ := fun i => World.frozen?_setCell _ _ _ _
  exact ⟨⟨cellOr_some (g 0 (by rw [c0]; rfl)), cellOr_some (g 1 (by rw [c1]; rfl)), cellOr_some (g 2 (by rw [c2]; rfl)), cellOr_some (g 3 (by rw [c3]; rfl)), cellOr_some (g 4 (by rw [c4]; rfl)), cellOr_some (g 5 (by rw [c5]; rfl)), cellOr_some (g 6 (by rw [c6]; rfl))⟩, (f 0).trans f0, (f 1).trans f1, (f 2).trans f2, (f 3).trans f3, (f 4).trans f4, (f 5).trans f5, (f 6).trans f6⟩
theorem Row7.sets {W : World} {rb : Nat} (h : Row7 W rb) (v0 v1 v2 v3 v4 v5 v6 : Value) : (((((((W.setCell ⟨rb, 0, none⟩ v0).setCell ⟨rb, 1, none⟩ v1).setCell ⟨rb, 2, none⟩ v2).setCell ⟨rb, 3, none⟩ v3).setCell ⟨rb, 4, none⟩ v4).setCell ⟨rb, 5, none⟩ v5).setCell ⟨rb, 6, none⟩ v6).cell? ⟨rb, 0, none⟩ = some v0 ∧ (((((((W.setCell ⟨rb, 0, none⟩ v0).setCell ⟨rb, 1, none⟩ v1).setCell ⟨rb, 2, none⟩ v2).setCell ⟨rb, 3, none⟩ v3).setCell ⟨rb, 4, none⟩ v4).setCell ⟨rb, 5, none⟩ v5).setCell ⟨rb, 6, none⟩ v6).cell? ⟨rb, 1, none⟩ = some v1 ∧ (((((((W.setCell ⟨rb, 0, none⟩ v0).setCell ⟨rb, 1, none⟩ v1).setCell ⟨rb, 2, none⟩ v2).setCell ⟨rb, 3, none⟩ v3).setCell ⟨rb, 4, none⟩ v4).setCell ⟨rb, 5, none⟩ v5).setCell ⟨rb, 6, none⟩ v6).cell? ⟨rb, 2, none⟩ = some v2 ∧ (((((((W.setCell ⟨rb, 0, none⟩ v0).setCell ⟨rb, 1, none⟩ v1).setCell ⟨rb, 2, none⟩ v2).setCell ⟨rb, 3, none⟩ v3).setCell ⟨rb, 4, none⟩ v4).setCell ⟨rb, 5, none⟩ v5).setCell ⟨rb, 6, none⟩ v6).cell? ⟨rb, 3, none⟩ = some v3 ∧ (((((((W.setCell ⟨rb, 0, none⟩ v0).setCell ⟨rb, 1, none⟩ v1).setCell ⟨rb, 2, none⟩ v2).setCell ⟨rb, 3, none⟩ v3).setCell ⟨rb, 4, none⟩ v4).setCell ⟨rb, 5, none⟩ v5).setCell ⟨rb, 6, none⟩ v6).cell? ⟨rb, 4, none⟩ = some v4 ∧ (((((((W.setCell ⟨rb, 0, none⟩ v0).setCell ⟨rb, 1, none⟩ v1).setCell ⟨rb, 2, none⟩ v2).setCell ⟨rb, 3, none⟩ v3).setCell ⟨rb, 4, none⟩ v4).setCell ⟨rb, 5, none⟩ v5).setCell ⟨rb, 6, none⟩ v6).cell? ⟨rb, 5, none⟩ = some v5 ∧ (((((((W.setCell ⟨rb, 0, none⟩ v0).setCell ⟨rb, 1, none⟩ v1).setCell ⟨rb, 2, none⟩ v2).setCell ⟨rb, 3, none⟩ v3).setCell ⟨rb, 4, none⟩ v4).setCell ⟨rb, 5, none⟩ v5).setCell ⟨rb, 6, none⟩ v6).cell? ⟨rb, 6, none⟩ = some v6 := by
  have o : ∀ (V : World) (i j : Nat) (v : Value), i ≠ j → (V.setCell ⟨rb, i, none⟩ v).cell? ⟨rb, j, none⟩ = V.cell? ⟨rb, j, none⟩ := fun V i j v _ => World.cell?_setCell_other _ _ _ _ (by simp)
  have h0 := h
  have h1 := h0.set ⟨rb, 0, none⟩ v0
  have h2 := h1.set ⟨rb, 1, none⟩ v1
  have h3 := h2.set ⟨rb, 2, none⟩ v2
  have h4 := h3.set ⟨rb, 3, none⟩ v3
  have h5 := h4.set ⟨rb, 4, none⟩ v4
  have h6 := h5.set ⟨rb, 5, none⟩ v5
  have s0 := World.cell?_setCell_same _ _ v0 h0.1.1
  have s1 := World.cell?_setCell_same _ _ v1 h1.1.2.1
  have s2 := World.cell?_setCell_same _ _ v2 h2.1.2.2.1
  have s3 := World.cell?_setCell_same _ _ v3 h3.1.2.2.2.1
  have s4 := World.cell?_setCell_same _ _ v4 h4.1.2.2.2.2.1
  have s5 := World.cell?_setCell_same _ _ v5 h5.1.2.2.2.2.2.1
  have s6 := World.cell?_setCell_same _ _ v6 h6.1.2.2.2.2.2.2
  refine ⟨?_, ?_, ?_, ?_, ?_, ?_, s6⟩
  · rw [o _ 6 0 _ (by omega), o _ 5 0 _ (by omega), o _ 4 0 _ (by omega), o _ 3 0 _ (by omega), o _ 2 0 _ (by omega), o _ 1 0 _ (by omega), s0]
  · rw [o _ 6 1 _ (by omega), o _ 5 1 _ (by omega), o _ 4 1 _ (by omega), o _ 3 1 _ (by omega), o _ 2 1 _ (by omega), s1]
  · rw [o _ 6 2 _ (by omega), o _ 5 2 _ (by omega), o _ 4 2 _ (by omega), o _ 3 2 _ (by omega), s2]
  · rw [o _ 6 3 _ (by omega), o _ 5 3 _ (by omega), o _ 4 3 _ (by omega), s3]
  · rw [o _ 6 4 _ (by omega), o _ 5 4 _ (by omega), s4]
  · rw [o _ 6 5 _ (by omega), s5]
theorem BoxN.open10 {W : World} {q : Nat} {t : TypeId} {c0 c1 c2 c3 c4 c5 c6 c7 c8 c9 : Value} (h : BoxN W q t #[c0, c1, c2, c3, c4, c5, c6, c7, c8, c9]) : (W.cell? ⟨q, 0, none⟩ = some c0 ∧ W.cell? ⟨q, 1, none⟩ = some c1 ∧ W.cell? ⟨q, 2, none⟩ = some c2 ∧ W.cell? ⟨q, 3, none⟩ = some c3 ∧ W.cell? ⟨q, 4, none⟩ = some c4 ∧ W.cell? ⟨q, 5, none⟩ = some c5 ∧ W.cell? ⟨q, 6, none⟩ = some c6 ∧ W.cell? ⟨q, 7, none⟩ = some c7 ∧ W.cell? ⟨q, 8, none⟩ = some c8 ∧ W.cell? ⟨q, 9, none⟩ = some c9) ∧ (W.frozen? ⟨q, 0, none⟩ = false ∧ W.frozen? ⟨q, 1, none⟩ = false ∧ W.frozen? ⟨q, 2, none⟩ = false ∧ W.frozen? ⟨q, 3, none⟩ = false ∧ W.frozen? ⟨q, 4, none⟩ = false ∧ W.frozen? ⟨q, 5, none⟩ = false ∧ W.frozen? ⟨q, 6, none⟩ = false ∧ W.frozen? ⟨q, 7, none⟩ = false ∧ W.frozen? ⟨q, 8, none⟩ = false ∧ W.frozen? ⟨q, 9, none⟩ = false) :=
  ⟨⟨h.cell 0 rfl, h.cell 1 rfl, h.cell 2 rfl, h.cell 3 rfl, h.cell 4 rfl, h.cell 5 rfl, h.cell 6 rfl, h.cell 7 rfl, h.cell 8 rfl, h.cell 9 rfl⟩, ⟨h.frozen 0, h.frozen 1, h.frozen 2, h.frozen 3, h.frozen 4, h.frozen 5, h.frozen 6, h.frozen 7, h.frozen 8, h.frozen 9⟩⟩
theorem BoxN.sets10 {W : World} {q : Nat} {t : TypeId} {c0 c1 c2 c3 c4 c5 c6 c7 c8 c9 : Value} (h : BoxN W q t #[c0, c1, c2, c3, c4, c5, c6, c7, c8, c9]) (v0 v1 v2 v3 v4 v5 v6 v7 v8 v9 : Value) : BoxN ((((((((((W.setCell ⟨q, 0, none⟩ v0).setCell ⟨q, 1, none⟩ v1).setCell ⟨q, 2, none⟩ v2).setCell ⟨q, 3, none⟩ v3).setCell ⟨q, 4, none⟩ v4).setCell ⟨q, 5, none⟩ v5).setCell ⟨q, 6, none⟩ v6).setCell ⟨q, 7, none⟩ v7).setCell ⟨q, 8, none⟩ v8).setCell ⟨q, 9, none⟩ v9) q t #[v0, v1, v2, v3, v4, v5, v6, v7, v8, v9] := by
  have h1 : BoxN (W.setCell ⟨q, 0, none⟩ v0) q t #[v0, c1, c2, c3, c4, c5, c6, c7, c8, c9] := h.set 0 v0
  have h2 : BoxN ((W.setCell ⟨q, 0, none⟩ v0).setCell ⟨q, 1, none⟩ v1) q t #[v0, v1, c2, c3, c4, c5, c6, c7, c8, c9] := h1.set 1 v1
  have h3 : BoxN (((W.setCell ⟨q, 0, none⟩ v0).setCell ⟨q, 1, none⟩ v1).setCell ⟨q, 2, none⟩ v2) q t #[v0, v1, v2, c3, c4, c5, c6, c7, c8, c9] := h2.set 2 v2
  have h4 : BoxN ((((W.setCell ⟨q, 0, none⟩ v0).setCell ⟨q, 1, none⟩ v1).setCell ⟨q, 2, none⟩ v2).setCell ⟨q, 3, none⟩ v3) q t #[v0, v1, v2, v3, c4, c5, c6, c7, c8, c9] := h3.set 3 v3
  have h5 : BoxN (((((W.setCell ⟨q, 0, none⟩ v0).setCell ⟨q, 1, none⟩ v1).setCell ⟨q, 2, none⟩ v2).setCell ⟨q, 3, none⟩ v3).setCell ⟨q, 4, none⟩ v4) q t #[v0, v1, v2, v3, v4, c5, c6, c7, c8, c9] := h4.set 4 v4
  have h6 : BoxN ((((((W.setCell ⟨q, 0, none⟩ v0).setCell ⟨q, 1, none⟩ v1).setCell ⟨q, 2, none⟩ v2).setCell ⟨q, 3, none⟩ v3).setCell ⟨q, 4, none⟩ v4).setCell ⟨q, 5, none⟩ v5) q t #[v0, v1, v2, v3, v4, v5, c6, c7, c8, c9] := h5.set 5 v5
  have h7 : BoxN (((((((W.setCell ⟨q, 0, none⟩ v0).setCell ⟨q, 1, none⟩ v1).setCell ⟨q, 2, none⟩ v2).setCell ⟨q, 3, none⟩ v3).setCell ⟨q, 4, none⟩ v4).setCell ⟨q, 5, none⟩ v5).setCell ⟨q, 6, none⟩ v6) q t #[v0, v1, v2, v3, v4, v5, v6, c7, c8, c9] := h6.set 6 v6
  have h8 : BoxN ((((((((W.setCell ⟨q, 0, none⟩ v0).setCell ⟨q, 1, none⟩ v1).setCell ⟨q, 2, none⟩ v2).setCell ⟨q, 3, none⟩ v3).setCell ⟨q, 4, none⟩ v4).setCell ⟨q, 5, none⟩ v5).setCell ⟨q, 6, none⟩ v6).setCell ⟨q, 7, none⟩ v7) q t #[v0, v1, v2, v3, v4, v5, v6, v7, c8, c9] := h7.set 7 v7
  have h9 : BoxN (((((((((W.setCell ⟨q, 0, none⟩ v0).setCell ⟨q, 1, none⟩ v1).setCell ⟨q, 2, none⟩ v2).setCell ⟨q, 3, none⟩ v3).setCell ⟨q, 4, none⟩ v4).setCell ⟨q, 5, none⟩ v5).setCell ⟨q, 6, none⟩ v6).setCell ⟨q, 7, none⟩ v7).setCell ⟨q, 8, none⟩ v8) q t #[v0, v1, v2, v3, v4, v5, v6, v7, v8, c9] := h8.set 8 v8
  have h10 : BoxN ((((((((((W.setCell ⟨q, 0, none⟩ v0).setCell ⟨q, 1, none⟩ v1).setCell ⟨q, 2, none⟩ v2).setCell ⟨q, 3, none⟩ v3).setCell ⟨q, 4, none⟩ v4).setCell ⟨q, 5, none⟩ v5).setCell ⟨q, 6, none⟩ v6).setCell ⟨q, 7, none⟩ v7).setCell ⟨q, 8, none⟩ v8).setCell ⟨q, 9, none⟩ v9) q t #[v0, v1, v2, v3, v4, v5, v6, v7, v8, v9] := h9.set 9 v9
  exact h10
theorem belowSets10 {B : Nat} {w W : World} (hb : Below B w W) {q : Nat} (hq : B ≤ q) (v0 v1 v2 v3 v4 v5 v6 v7 v8 v9 : Value) : Below B w ((((((((((W.setCell ⟨q, 0, none⟩ v0).setCell ⟨q, 1, none⟩ v1).setCell ⟨q, 2, none⟩ v2).setCell ⟨q, 3, none⟩ v3).setCell ⟨q, 4, none⟩ v4).setCell ⟨q, 5, none⟩ v5).setCell ⟨q, 6, none⟩ v6).setCell ⟨q, 7, none⟩ v7).setCell ⟨q, 8, none⟩ v8).setCell ⟨q, 9, none⟩ v9) := ((((((((((hb.setCell (p := ⟨q, 0, none⟩) hq v0).setCell (p := ⟨q, 1, none⟩) hq v1).setCell (p := ⟨q, 2, none⟩) hq v2).setCell (p := ⟨q, 3, none⟩) hq v3).setCell (p := ⟨q, 4, none⟩) hq v4).setCell (p := ⟨q, 5, none⟩) hq v5).setCell (p := ⟨q, 6, none⟩) hq v6).setCell (p := ⟨q, 7, none⟩) hq v7).setCell (p := ⟨q, 8, none⟩) hq v8).setCell (p := ⟨q, 9, none⟩) hq v9)
abbrev Row10 (W : World) (rb : Nat) : Prop :=
  (W.cell? ⟨rb, 0, none⟩ = some (cellOr W ⟨rb, 0, none⟩) ∧ W.cell? ⟨rb, 1, none⟩ = some (cellOr W ⟨rb, 1, none⟩) ∧ W.cell? ⟨rb, 2, none⟩ = some (cellOr W ⟨rb, 2, none⟩) ∧ W.cell? ⟨rb, 3, none⟩ = some (cellOr W ⟨rb, 3, none⟩) ∧ W.cell? ⟨rb, 4, none⟩ = some (cellOr W ⟨rb, 4, none⟩) ∧ W.cell? ⟨rb, 5, none⟩ = some (cellOr W ⟨rb, 5, none⟩) ∧ W.cell? ⟨rb, 6, none⟩ = some (cellOr W ⟨rb, 6, none⟩) ∧ W.cell? ⟨rb, 7, none⟩ = some (cellOr W ⟨rb, 7, none⟩) ∧ W.cell? ⟨rb, 8, none⟩ = some (cellOr W ⟨rb, 8, none⟩) ∧ W.cell? ⟨rb, 9, none⟩ = some (cellOr W ⟨rb, 9, none⟩)) ∧
  (W.frozen? ⟨rb, 0, none⟩ = false ∧ W.frozen? ⟨rb, 1, none⟩ = false ∧ W.frozen? ⟨rb, 2, none⟩ = false ∧ W.frozen? ⟨rb, 3, none⟩ = false ∧ W.frozen? ⟨rb, 4, none⟩ = false ∧ W.frozen? ⟨rb, 5, none⟩ = false ∧ W.frozen? ⟨rb, 6, none⟩ = false ∧ W.frozen? ⟨rb, 7, none⟩ = false ∧ W.frozen? ⟨rb, 8, none⟩ = false ∧ W.frozen? ⟨rb, 9, none⟩ = false)
theorem Row10.below {W W' : World} {rb : Nat} (h : Row10 W rb) (hb : Below W.heap.size W W') : Row10 W' rb := by
  have hlt : rb < W.heap.size := World.block_lt_of_cell? _ _ h.1.1
  have c : ∀ i, W'.cell? ⟨rb, i, none⟩ = W.cell? ⟨rb, i, none⟩ := fun i => hb.cell (p := ⟨rb, i, none⟩) hlt
  have f : ∀ i, W'.frozen? ⟨rb, i, none⟩ = W.frozen? ⟨rb, i, none⟩ := fun i => hb.frozen (p := ⟨rb, i, none⟩) hlt
  have e : ∀ i, cellOr W' ⟨rb, i, none⟩ = cellOr W ⟨rb, i, none⟩ := fun i => by unfold cellOr; rw [c i]
  simp only [Row10, c, f, e]
  exact h
theorem Row10.mk {W : World} {rb : Nat} (h : ∀ i, i < 10 → (W.cell? ⟨rb, i, none⟩).isSome) (f : ∀ i, i < 10 → W.frozen? ⟨rb, i, none⟩ = false) : Row10 W rb :=
  ⟨⟨cellOr_some (h 0 (by omega)), cellOr_some (h 1 (by omega)), cellOr_some (h 2 (by omega)), cellOr_some (h 3 (by omega)), cellOr_some (h 4 (by omega)), cellOr_some (h 5 (by omega)), cellOr_some (h 6 (by omega)), cellOr_some (h 7 (by omega)), cellOr_some (h 8 (by omega)), cellOr_some (h 9 (by omega))⟩, f 0 (by omega), f 1 (by omega), f 2 (by omega), f 3 (by omega), f 4 (by omega), f 5 (by omega), f 6 (by omega), f 7 (by omega), f 8 (by omega), f 9 (by omega)⟩
theorem BoxN.row10 {W : World} {q : Nat} {t : TypeId} {c0 c1 c2 c3 c4 c5 c6 c7 c8 c9 : Value} (h : BoxN W q t #[c0, c1, c2, c3, c4, c5, c6, c7, c8, c9]) : Row10 W q := by
  refine Row10.mk (fun i hi => ?_) (fun i _ => h.frozen i)
  rw [h.cell i (v := #[c0, c1, c2, c3, c4, c5, c6, c7, c8, c9][i]) (by simp [hi])]
  rfl
theorem Row10.set {W : World} {rb : Nat} (h : Row10 W rb) (a : Addr) (v : Value) : Row10 (W.setCell a v) rb := by
  obtain ⟨⟨c0, c1, c2, c3, c4, c5, c6, c7, c8, c9⟩, f0, f1, f2, f3, f4, f5, f6, f7, f8, f9⟩ := h
  have g : ∀ i, (W.cell? ⟨rb, i, none⟩).isSome → ((W.setCell a v).cell? ⟨rb, i, none⟩).isSome := fun i hi => by
    obtain ⟨x, hx⟩ := Option.isSome_iff_exists.1 hi
    obtain ⟨y, hy⟩ := cell?_setCell_some (w := W) (p := a) (x := v) hx
    rw [hy]; rfl
  have f : ∀ i, (W.setCell a v).frozen? ⟨rb, i, none⟩ = W.frozen? ⟨rb, i, none⟩ := fun i => World.frozen?_setCell _ _ _ _
  exact ⟨⟨cellOr_some (g 0 (by rw [c0]; rfl)), cellOr_some (g 1 (by rw [c1]; rfl)), cellOr_some (g 2 (by rw [c2]; rfl)), cellOr_some (g 3 (by rw [c3]; rfl)), cellOr_some (g 4 (by rw [c4]; rfl)), cellOr_some (g 5 (by rw [c5]; rfl)), cellOr_some (g 6 (by rw [c6]; rfl)), cellOr_some (g 7 (by rw [c7]; rfl)), cellOr_some (g 8 (by rw [c8]; rfl)), cellOr_some (g 9 (by rw [c9]; rfl))⟩, (f 0).trans f0, (f 1).trans f1, (f 2).trans f2, (f 3).trans f3, (f 4).trans f4, (f 5).trans f5, (f 6).trans f6, (f 7).trans f7, (f 8).trans f8, (f 9).trans f9⟩
theorem Row10.sets {W : World} {rb : Nat} (h : Row10 W rb) (v0 v1 v2 v3 v4 v5 v6 v7 v8 v9 : Value) : ((((((((((W.setCell ⟨rb, 0, none⟩ v0).setCell ⟨rb, 1, none⟩ v1).setCell ⟨rb, 2, none⟩ v2).setCell ⟨rb, 3, none⟩ v3).setCell ⟨rb, 4, none⟩ v4).setCell ⟨rb, 5, none⟩ v5).setCell ⟨rb, 6, none⟩ v6).setCell ⟨rb, 7, none⟩ v7).setCell ⟨rb, 8, none⟩ v8).setCell ⟨rb, 9, none⟩ v9).cell? ⟨rb, 0, none⟩ = some v0 ∧ ((((((((((W.setCell ⟨rb, 0, none⟩ v0).setCell ⟨rb, 1, none⟩ v1).setCell ⟨rb, 2, none⟩ v2).setCell ⟨rb, 3, none⟩ v3).setCell ⟨rb, 4, none⟩ v4).setCell ⟨rb, 5, none⟩ v5).setCell ⟨rb, 6, none⟩ v6).setCell ⟨rb, 7, none⟩ v7).setCell ⟨rb, 8, none⟩ v8).setCell ⟨rb, 9, none⟩ v9).cell? ⟨rb, 1, none⟩ = some v1 ∧ ((((((((((W.setCell ⟨rb, 0, none⟩ v0).setCell ⟨rb, 1, none⟩ v1).setCell ⟨rb, 2, none⟩ v2).setCell ⟨rb, 3, none⟩ v3).setCell ⟨rb, 4, none⟩ v4).setCell ⟨rb, 5, none⟩ v5).setCell ⟨rb, 6, none⟩ v6).setCell ⟨rb, 7, none⟩ v7).setCell ⟨rb, 8, none⟩ v8).setCell ⟨rb, 9, none⟩ v9).cell? ⟨rb, 2, none⟩ = some v2 ∧ ((((((((((W.setCell ⟨rb, 0, none⟩ v0).setCell ⟨rb, 1, none⟩ v1).setCell ⟨rb, 2, none⟩ v2).setCell ⟨rb, 3, none⟩ v3).setCell ⟨rb, 4, none⟩ v4).setCell ⟨rb, 5, none⟩ v5).setCell ⟨rb, 6, none⟩ v6).setCell ⟨rb, 7, none⟩ v7).setCell ⟨rb, 8, none⟩ v8).setCell ⟨rb, 9, none⟩ v9).cell? ⟨rb, 3, none⟩ = some v3 ∧ ((((((((((W.setCell ⟨rb, 0, none⟩ v0).setCell ⟨rb, 1, none⟩ v1).setCell ⟨rb, 2, none⟩ v2).setCell ⟨rb, 3, none⟩ v3).setCell ⟨rb, 4, none⟩ v4).setCell ⟨rb, 5, none⟩ v5).setCell ⟨rb, 6, none⟩ v6).setCell ⟨rb, 7, none⟩ v7).setCell ⟨rb, 8, none⟩ v8).setCell ⟨rb, 9, none⟩ v9).cell? ⟨rb, 4, none⟩ = some v4 ∧ ((((((((((W.setCell ⟨rb, 0, none⟩ v0).setCell ⟨rb, 1, none⟩ v1).setCell ⟨rb, 2, none⟩ v2).setCell ⟨rb, 3, none⟩ v3).setCell ⟨rb, 4, none⟩ v4).setCell ⟨rb, 5, none⟩ v5).setCell ⟨rb, 6, none⟩ v6).setCell ⟨rb, 7, none⟩ v7).setCell ⟨rb, 8, none⟩ v8).setCell ⟨rb, 9, none⟩ v9).cell? ⟨rb, 5, none⟩ = some v5 ∧ ((((((((((W.setCell ⟨rb, 0, none⟩ v0).setCell ⟨rb, 1, none⟩ v1).setCell ⟨rb, 2, none⟩ v2).setCell ⟨rb, 3, none⟩ v3).setCell ⟨rb, 4, none⟩ v4).setCell ⟨rb, 5, none⟩ v5).setCell ⟨rb, 6, none⟩ v6).setCell ⟨rb, 7, none⟩ v7).setCell ⟨rb, 8, none⟩ v8).setCell ⟨rb, 9, none⟩ v9).cell? ⟨rb, 6, none⟩ = some v6 ∧ ((((((((((W.setCell ⟨rb, 0, none⟩ v0).setCell ⟨rb, 1, none⟩ v1).setCell ⟨rb, 2, none⟩ v2).setCell ⟨rb, 3, none⟩ v3).setCell ⟨rb, 4, none⟩ v4).setCell ⟨rb, 5, none⟩ v5).setCell ⟨rb, 6, none⟩ v6).setCell ⟨rb, 7, none⟩ v7).setCell ⟨rb, 8, none⟩ v8).setCell ⟨rb, 9, none⟩ v9).cell? ⟨rb, 7, none⟩ = some v7 ∧ ((((((((((W.setCell ⟨rb, 0, none⟩ v0).setCell ⟨rb, 1, none⟩ v1).setCell ⟨rb, 2, none⟩ v2).setCell ⟨rb, 3, none⟩ v3).setCell ⟨rb, 4, none⟩ v4).setCell ⟨rb, 5, none⟩ v5).setCell ⟨rb, 6, none⟩ v6).setCell ⟨rb, 7, none⟩ v7).setCell ⟨rb, 8, none⟩ v8).setCell ⟨rb, 9, none⟩ v9).cell? ⟨rb, 8, none⟩ = some v8 ∧ ((((((((((W.setCell ⟨rb, 0, none⟩ v0).setCell ⟨rb, 1, none⟩ v1).setCell ⟨rb, 2, none⟩ v2).setCell ⟨rb, 3, none⟩ v3).setCell ⟨rb, 4, none⟩ v4).setCell ⟨rb, 5, none⟩ v5).setCell ⟨rb, 6, none⟩ v6).setCell ⟨rb, 7, none⟩ v7).setCell ⟨rb, 8, none⟩ v8).setCell ⟨rb, 9, none⟩ v9).cell? ⟨rb, 9, none⟩ = some v9 := by
  have o : ∀ (V : World) (i j : Nat) (v : Value), i ≠ j → (V.setCell ⟨rb, i, none⟩ v).cell? ⟨rb, j, none⟩ = V.cell? ⟨rb, j, none⟩ := fun V i j v _ => World.cell?_setCell_other _ _ _ _ (by simp)
  have h0 := h
  have h1 := h0.set ⟨rb, 0, none⟩ v0
  have h2 := h1.set ⟨rb, 1, none⟩ v1
  have h3 := h2.set ⟨rb, 2, none⟩ v2
  have h4 := h3.set ⟨rb, 3, none⟩ v3
  have h5 := h4.set ⟨rb, 4, none⟩ v4
  have h6 := h5.set ⟨rb, 5, none⟩ v5
  have h7 := h6.set ⟨rb, 6, none⟩ v6
  have h8 := h7.set ⟨rb, 7, none⟩ v7
  have h9 := h8.set ⟨rb, 8, none⟩ v8
  have s0 := World.cell?_setCell_same _ _ v0 h0.1.1
  have s1 := World.cell?_setCell_same _ _ v1 h1.1.2.1
  have s2 := World.cell?_setCell_same _ _ v2 h2.1.2.2.1
  have s3 := World.cell?_setCell_same _ _ v3 h3.1.2.2.2.1
  have s4 := World.cell?_setCell_same _ _ v4 h4.1.2.2.2.2.1
  have s5 := World.cell?_setCell_same _ _ v5 h5.1.2.2.2.2.2.1
  have s6 := World.cell?_setCell_same _ _ v6 h6.1.2.2.2.2.2.2.1
  have s7 := World.cell?_setCell_same _ _ v7 h7.1.2.2.2.2.2.2.2.1
  have s8 := World.cell?_setCell_same _ _ v8 h8.1.2.2.2.2.2.2.2.2.1
  have s9 := World.cell?_setCell_same _ _ v9 h9.1.2.2.2.2.2.2.2.2.2
  refine ⟨?_, ?_, ?_, ?_, ?_, ?_, ?_, ?_, ?_, s9⟩
  · rw [o _ 9 0 _ (by omega), o _ 8 0 _ (by omega), o _ 7 0 _ (by omega), o _ 6 0 _ (by omega), o _ 5 0 _ (by omega), o _ 4 0 _ (by omega), o _ 3 0 _ (by omega), o _ 2 0 _ (by omega), o _ 1 0 _ (by omega), s0]
  · rw [o _ 9 1 _ (by omega), o _ 8 1 _ (by omega), o _ 7 1 _ (by omega), o _ 6 1 _ (by omega), o _ 5 1 _ (by omega), o _ 4 1 _ (by omega), o _ 3 1 _ (by omega), o _ 2 1 _ (by omega), s1]
  · rw [o _ 9 2 _ (by omega), o _ 8 2 _ (by omega), o _ 7 2 _ (by omega), o _ 6 2 _ (by omega), o _ 5 2 _ (by omega), o _ 4 2 _ (by omega), o _ 3 2 _ (by omega), s2]
  · rw [o _ 9 3 _ (by omega), o _ 8 3 _ (by omega), o _ 7 3 _ (by omega), o _ 6 3 _ (by omega), o _ 5 3 _ (by omega), o _ 4 3 _ (by omega), s3]
  · rw [o _ 9 4 _ (by omega), o _ 8 4 _ (by omega), o _ 7 4 _ (by omega), o _ 6 4 _ (by omega), o _ 5 4 _ (by omega), s4]
  · rw [o _ 9 5 _ (by omega), o _ 8 5 _ (by omega), o _ 7 5 _ (by omega), o _ 6 5 _ (by omega), s5]
  · rw [o _ 9 6 _ (by omega), o _ 8 6 _ (by omega), o _ 7 6 _ (by omega), s6]
  · rw [o _ 9 7 _ (by omega), o _ 8 7 _ (by omega), s7]
  · rw [o _ 9 8 _ (by omega), s8]
theorem below2 (w : World) (o o' : Obj) : Below w.heap.size w ((w.alloc o).alloc o') := ((Below.refl _ w).alloc (Nat.le_refl _) _).alloc (by simp) _
end Go.Proofs
