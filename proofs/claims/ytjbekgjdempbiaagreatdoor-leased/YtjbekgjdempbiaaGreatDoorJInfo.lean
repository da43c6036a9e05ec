import Derived.Test.YtjbekgjdempbiaaGreatDoorJStr
import Derived.Test.YtjbekgjdempbiaaGreatDoorJRangeO
import Derived.Deep.RegionHeld3
/-
  What tokens and leases tell of themselves.
-/
namespace Go.Proofs
open Go.RowKit Go.Sort Go.Lib Go.Shelf

set_option maxHeartbeats 400000 in
theorem Tryz.entryLive (b : Nat) (pd : Bool) (w : World) (h4 : w.cell? ⟨b, 4, none⟩ = some (.bool pd)) : Calls Tryz.prog 89 #[.pointer (some ⟨b, 0, none⟩)] w fun e w' => e = .returned (.bool !pd) ∧ w' = w := by
  go_enter Tryz.func89, Tryz.ntmps89
  go_wp2
  go_ret
  exact ⟨rfl, rfl⟩

set_option maxRecDepth 100000 in
set_option maxHeartbeats 1000000 in
theorem Tryz.leaseLive (b : Nat) (pd : Bool) (at_ tm : Int) (w : World) (h4 : w.cell? ⟨b, 4, none⟩ = some (.bool pd)) (h2 : w.cell? ⟨b, 2, none⟩ = some (.int .u64 at_)) :
    Calls Tryz.prog 91 #[.pointer (some ⟨b, 0, none⟩), .int .u64 tm] w fun e w' => e = .returned (.bool (!pd && decide (tm < at_))) ∧ w' = w := by
  have hl := fun W h => Tryz.entryLive b pd W h
  cases pd with
  | true =>
    go_enter Tryz.func91, Tryz.ntmps91
    go_wp2_with (go_at_call 89; refine (hl _ h4).mono ?_; rintro e w' ⟨rfl, rfl⟩)
    go_ret
    exact ⟨rfl, rfl⟩
  | false =>
    go_enter Tryz.func91, Tryz.ntmps91
    go_wp2_with (go_at_call 89; refine (hl _ h4).mono ?_; rintro e w' ⟨rfl, rfl⟩)
    go_ret
    exact ⟨by simp, rfl⟩

/-- an Info's cells. -/
def infoCells (id : List UInt8) (st : Int) (at_ : Int) (tr : Int) (tok pth : List UInt8) : Array Value := #[.string ⟨id.toArray⟩, .int .i64 st, .int .u64 at_, .int .i64 tr, .string ⟨tok.toArray⟩, .string ⟨pth.toArray⟩]

/-- six cells that may be written. -/
abbrev Row6 (W : World) (rb : Nat) : Prop :=
  (W.cell? ⟨rb, 0, none⟩ = some (cellOr W ⟨rb, 0, none⟩) ∧ W.cell? ⟨rb, 1, none⟩ = some (cellOr W ⟨rb, 1, none⟩) ∧ W.cell? ⟨rb, 2, none⟩ = some (cellOr W ⟨rb, 2, none⟩) ∧ W.cell? ⟨rb, 3, none⟩ = some (cellOr W ⟨rb, 3, none⟩) ∧ W.cell? ⟨rb, 4, none⟩ = some (cellOr W ⟨rb, 4, none⟩) ∧ W.cell? ⟨rb, 5, none⟩ = some (cellOr W ⟨rb, 5, none⟩)) ∧
  (W.frozen? ⟨rb, 0, none⟩ = false ∧ W.frozen? ⟨rb, 1, none⟩ = false ∧ W.frozen? ⟨rb, 2, none⟩ = false ∧ W.frozen? ⟨rb, 3, none⟩ = false ∧ W.frozen? ⟨rb, 4, none⟩ = false ∧ W.frozen? ⟨rb, 5, none⟩ = false)
theorem Row6.below {W W' : World} {rb : Nat} (h : Row6 W rb) (hb : Below W.heap.size W W') : Row6 W' rb := by
  have hlt : rb < W.heap.size := World.block_lt_of_cell? _ _ h.1.1
  have c : ∀ i, W'.cell? ⟨rb, i, none⟩ = W.cell? ⟨rb, i, none⟩ := fun i => hb.cell (p := ⟨rb, i, none⟩) hlt
  have f : ∀ i, W'.frozen? ⟨rb, i, none⟩ = W.frozen? ⟨rb, i, none⟩ := fun i => hb.frozen (p := ⟨rb, i, none⟩) hlt
  have e : ∀ i, cellOr W' ⟨rb, i, none⟩ = cellOr W ⟨rb, i, none⟩ := fun i => by unfold cellOr; rw [c i]
  simp only [Row6, c, f, e]
  exact h
theorem Row6.mk {W : World} {rb : Nat} (h : ∀ i, i < 6 → (W.cell? ⟨rb, i, none⟩).isSome) (f : ∀ i, i < 6 → W.frozen? ⟨rb, i, none⟩ = false) : Row6 W rb :=
  ⟨⟨cellOr_some (h 0 (by omega)), cellOr_some (h 1 (by omega)), cellOr_some (h 2 (by omega)), cellOr_some (h 3 (by omega)), cellOr_some (h 4 (by omega)), cellOr_some (h 5 (by omega))⟩, f 0 (by omega), f 1 (by omega), f 2 (by omega), f 3 (by omega), f 4 (by omega), f 5 (by omega)⟩
theorem Row6.some {W : World} {rb : Nat} (h : Row6 W rb) : (∀ i, i < 6 → (W.cell? ⟨rb, i, none⟩).isSome) ∧ (∀ i, i < 6 → W.frozen? ⟨rb, i, none⟩ = false) := by
  obtain ⟨⟨c0, c1, c2, c3, c4, c5⟩, f0, f1, f2, f3, f4, f5⟩ := h
  refine ⟨fun i hi => ?_, fun i hi => ?_⟩
  · match i, hi with
    | 0, _ => rw [c0]; rfl
    | 1, _ => rw [c1]; rfl
    | 2, _ => rw [c2]; rfl
    | 3, _ => rw [c3]; rfl
    | 4, _ => rw [c4]; rfl
    | 5, _ => rw [c5]; rfl
  · match i, hi with
    | 0, _ => exact f0
    | 1, _ => exact f1
    | 2, _ => exact f2
    | 3, _ => exact f3
    | 4, _ => exact f4
    | 5, _ => exact f5
theorem Row6.set {W : World} {rb : Nat} (h : Row6 W rb) (a : Addr) (v : Value) : Row6 (W.setCell a v) rb := by
  obtain ⟨hs, hf⟩ := h.some
  refine Row6.mk (fun i hi => ?_) (fun i hi => by rw [World.frozen?_setCell]; exact hf i hi)
  obtain ⟨x, hx⟩ := Option.isSome_iff_exists.1 (hs i hi)
  obtain ⟨y, hy⟩ := cell?_setCell_some (w := W) (p := a) (x := v) hx
  rw [hy]; rfl
theorem Row6.new (W : World) (t : TypeId) (c0 c1 c2 c3 c4 c5 : Value) : Row6 (W.alloc (.cells #[c0, c1, c2, c3, c4, c5] t)) W.heap.size := by
  have hb := BoxN.new W t #[c0, c1, c2, c3, c4, c5]
  refine Row6.mk (fun i hi => ?_) (fun i _ => hb.frozen i)
  rw [hb.cell i (v := #[c0, c1, c2, c3, c4, c5][i]) (by simp [hi])]
  rfl
abbrev Tryz.InfoS (w0 : World) (nb b rb : Nat) (k : Int) (u : Nat) (ak : Int) (au : Nat) (at_ tr : Int) (W : World) : Prop :=
  (W.cell? ⟨nb, 0, none⟩ = some (.int .i64 k) ∧ W.cell? ⟨nb, 1, none⟩ = some (.int .u64 u) ∧ W.cell? ⟨b, 0, none⟩ = some (.int .i64 ak) ∧ W.cell? ⟨b, 1, none⟩ = some (.int .u64 au) ∧ W.cell? ⟨b, 2, none⟩ = some (.int .u64 at_) ∧ W.cell? ⟨b, 3, none⟩ = some (.int .i64 tr)) ∧
  Row6 W rb ∧ Tryz.Env W ∧ 6 ≤ W.heap.size ∧ Below w0.heap.size w0 W
theorem Tryz.InfoS.below {w0 W W' : World} {nb b rb : Nat} {k : Int} {u : Nat} {ak : Int} {au : Nat} {at_ tr : Int} (h : Tryz.InfoS w0 nb b rb k u ak au at_ tr W) (hb : Below W.heap.size W W') : Tryz.InfoS w0 nb b rb k u ak au at_ tr W' := by
  obtain ⟨⟨c0, c1, c2, c3, c4, c5⟩, hr, hE, h6, hB⟩ := h
  exact ⟨⟨cell_later hb c0, cell_later hb c1, cell_later hb c2, cell_later hb c3, cell_later hb c4, cell_later hb c5⟩, hr.below hb, hE.below hb h6, Nat.le_trans h6 hb.size, hB.trans (hb.mono hB.size)⟩

abbrev Tryz.InfoP (w0 : World) (nb b rb : Nat) (k : Int) (u : Nat) (ak : Int) (au : Nat) (at_ tr : Int) (pd : Bool) (W : World) : Prop :=
  Tryz.InfoS w0 nb b rb k u ak au at_ tr W ∧ W.cell? ⟨b, 4, none⟩ = some (.bool pd)
theorem Tryz.InfoP.below {w0 W W' : World} {nb b rb : Nat} {k : Int} {u : Nat} {ak : Int} {au : Nat} {at_ tr : Int} {pd : Bool} (h : Tryz.InfoP w0 nb b rb k u ak au at_ tr pd W) (hb : Below W.heap.size W W') : Tryz.InfoP w0 nb b rb k u ak au at_ tr pd W' := ⟨h.1.below hb, cell_later hb h.2⟩
theorem Tryz.InfoS.drew {w0 W : World} {nb b rb : Nat} {k : Int} {u : Nat} {ak : Int} {au : Nat} {at_ tr : Int} (h : Tryz.InfoS w0 nb b rb k u ak au at_ tr W) : Tryz.InfoS w0 nb b rb k u ak au at_ tr W.drew := h.below (Grew.below (Grew.refl W).drew)
theorem Tryz.InfoS.set {w0 W : World} {nb b rb : Nat} {k : Int} {u : Nat} {ak : Int} {au : Nat} {at_ tr : Int} (h : Tryz.InfoS w0 nb b rb k u ak au at_ tr W) (hn : nb ≠ rb) (hb : b ≠ rb) (hr : w0.heap.size ≤ rb) (hr6 : 6 ≤ w0.heap.size) (i : Nat) (v : Value) : Tryz.InfoS w0 nb b rb k u ak au at_ tr (W.setCell ⟨rb, i, none⟩ v) := by
  obtain ⟨⟨c0, c1, c2, c3, c4, c5⟩, hrow, hE, h6, hB⟩ := h
  have o : ∀ (q j : Nat), q ≠ rb → (W.setCell ⟨rb, i, none⟩ v).cell? ⟨q, j, none⟩ = W.cell? ⟨q, j, none⟩ := fun q j hq => World.cell?_setCell_other _ _ _ _ (by simp)
  have hB' := hB.setCell (p := ⟨rb, i, none⟩) hr v
  refine ⟨⟨(o _ _ hn).trans c0, (o _ _ hn).trans c1, (o _ _ hb).trans c2, (o _ _ hb).trans c3, (o _ _ hb).trans c4, (o _ _ hb).trans c5⟩, hrow.set _ _, ?_, ?_, hB'⟩
  · exact hE.below ((Below.refl w0.heap.size W).setCell (p := ⟨rb, i, none⟩) hr v) hr6
  · have := hB'.size; omega
theorem Tryz.InfoP.set {w0 W : World} {nb b rb : Nat} {k : Int} {u : Nat} {ak : Int} {au : Nat} {at_ tr : Int} {pd : Bool} (h : Tryz.InfoP w0 nb b rb k u ak au at_ tr pd W) (hn : nb ≠ rb) (hb : b ≠ rb) (hr : w0.heap.size ≤ rb) (hr6 : 6 ≤ w0.heap.size) (i : Nat) (v : Value) : Tryz.InfoP w0 nb b rb k u ak au at_ tr pd (W.setCell ⟨rb, i, none⟩ v) :=
  ⟨h.1.set hn hb hr hr6 i v, (World.cell?_setCell_other _ _ _ _ (by simp)).trans h.2⟩
theorem Tryz.InfoS.start {w : World} {b : Nat} {k : Int} {u : Nat} {ak : Int} {au : Nat} {at_ tr : Int} (hE : Tryz.Env w) (h6 : 6 ≤ w.heap.size)
    (h0 : w.cell? ⟨b, 0, none⟩ = some (.int .i64 ak)) (h1 : w.cell? ⟨b, 1, none⟩ = some (.int .u64 au)) (h2 : w.cell? ⟨b, 2, none⟩ = some (.int .u64 at_)) (h3 : w.cell? ⟨b, 3, none⟩ = some (.int .i64 tr)) (c0 c1 c2 c3 c4 c5 : Value) :
    Tryz.InfoS w w.heap.size b (w.heap.size + 1) k u ak au at_ tr ((w.alloc (.cells #[.int .i64 k, .int .u64 u] 114)).alloc (.cells #[c0, c1, c2, c3, c4, c5] 49)) := by
  have hb1 : Below w.heap.size w (w.alloc (.cells #[.int .i64 k, .int .u64 u] 114)) := (Below.refl _ w).alloc (Nat.le_refl _) _
  have hb2 : Below w.heap.size w ((w.alloc (.cells #[.int .i64 k, .int .u64 u] 114)).alloc (.cells #[c0, c1, c2, c3, c4, c5] 49)) := hb1.alloc (by simp) _
  have bn := (BoxN.new w 114 #[.int .i64 k, .int .u64 u]).alloc (.cells #[c0, c1, c2, c3, c4, c5] 49)
  have hr := Row6.new (w.alloc (.cells #[.int .i64 k, .int .u64 u] 114)) 49 c0 c1 c2 c3 c4 c5
  rw [World.size_alloc] at hr
  exact ⟨⟨bn.cell 0 rfl, bn.cell 1 rfl, cell_later hb2 h0, cell_later hb2 h1, cell_later hb2 h2, cell_later hb2 h3⟩, hr, hE.below hb2 h6, by simp; omega, hb2⟩

theorem Tryz.InfoP.start {w : World} {b : Nat} {k : Int} {u : Nat} {ak : Int} {au : Nat} {at_ tr : Int} {pd : Bool} (hE : Tryz.Env w) (h6 : 6 ≤ w.heap.size)
    (h0 : w.cell? ⟨b, 0, none⟩ = some (.int .i64 ak)) (h1 : w.cell? ⟨b, 1, none⟩ = some (.int .u64 au)) (h2 : w.cell? ⟨b, 2, none⟩ = some (.int .u64 at_)) (h3 : w.cell? ⟨b, 3, none⟩ = some (.int .i64 tr)) (h4 : w.cell? ⟨b, 4, none⟩ = some (.bool pd)) (c0 c1 c2 c3 c4 c5 : Value) :
    Tryz.InfoP w w.heap.size b (w.heap.size + 1) k u ak au at_ tr pd ((w.alloc (.cells #[.int .i64 k, .int .u64 u] 114)).alloc (.cells #[c0, c1, c2, c3, c4, c5] 49)).drew :=
  ⟨(Tryz.InfoS.start hE h6 h0 h1 h2 h3 c0 c1 c2 c3 c4 c5).drew, cell_later (Grew.below (((Grew.refl w).alloc _).alloc _).drew) h4⟩
theorem six_set {W : World} {rb : Nat} (h : Row6 W rb) (v0 v1 v2 v3 v4 v5 : Value) :
    ((((((W.setCell ⟨rb, 0, none⟩ v0).setCell ⟨rb, 1, none⟩ v1).setCell ⟨rb, 2, none⟩ v2).setCell ⟨rb, 3, none⟩ v3).setCell ⟨rb, 4, none⟩ v4).setCell ⟨rb, 5, none⟩ v5).cell? ⟨rb, 0, none⟩ = some v0 ∧
    ((((((W.setCell ⟨rb, 0, none⟩ v0).setCell ⟨rb, 1, none⟩ v1).setCell ⟨rb, 2, none⟩ v2).setCell ⟨rb, 3, none⟩ v3).setCell ⟨rb, 4, none⟩ v4).setCell ⟨rb, 5, none⟩ v5).cell? ⟨rb, 1, none⟩ = some v1 ∧
    ((((((W.setCell ⟨rb, 0, none⟩ v0).setCell ⟨rb, 1, none⟩ v1).setCell ⟨rb, 2, none⟩ v2).setCell ⟨rb, 3, none⟩ v3).setCell ⟨rb, 4, none⟩ v4).setCell ⟨rb, 5, none⟩ v5).cell? ⟨rb, 2, none⟩ = some v2 ∧
    ((((((W.setCell ⟨rb, 0, none⟩ v0).setCell ⟨rb, 1, none⟩ v1).setCell ⟨rb, 2, none⟩ v2).setCell ⟨rb, 3, none⟩ v3).setCell ⟨rb, 4, none⟩ v4).setCell ⟨rb, 5, none⟩ v5).cell? ⟨rb, 3, none⟩ = some v3 ∧
    ((((((W.setCell ⟨rb, 0, none⟩ v0).setCell ⟨rb, 1, none⟩ v1).setCell ⟨rb, 2, none⟩ v2).setCell ⟨rb, 3, none⟩ v3).setCell ⟨rb, 4, none⟩ v4).setCell ⟨rb, 5, none⟩ v5).cell? ⟨rb, 4, none⟩ = some v4 ∧
    ((((((W.setCell ⟨rb, 0, none⟩ v0).setCell ⟨rb, 1, none⟩ v1).setCell ⟨rb, 2, none⟩ v2).setCell ⟨rb, 3, none⟩ v3).setCell ⟨rb, 4, none⟩ v4).setCell ⟨rb, 5, none⟩ v5).cell? ⟨rb, 5, none⟩ = some v5 := by
  have h0 := h
  have h1 := h0.set ⟨rb, 0, none⟩ v0
  have h2 := h1.set ⟨rb, 1, none⟩ v1
  have h3 := h2.set ⟨rb, 2, none⟩ v2
  have h4 := h3.set ⟨rb, 3, none⟩ v3
  have h5 := h4.set ⟨rb, 4, none⟩ v4
  have s0 := World.cell?_setCell_same _ _ v0 h0.1.1
  have s1 := World.cell?_setCell_same _ _ v1 h1.1.2.1
  have s2 := World.cell?_setCell_same _ _ v2 h2.1.2.2.1
  have s3 := World.cell?_setCell_same _ _ v3 h3.1.2.2.2.1
  have s4 := World.cell?_setCell_same _ _ v4 h4.1.2.2.2.2.1
  have s5 := World.cell?_setCell_same _ _ v5 h5.1.2.2.2.2.2
  have o : ∀ (V : World) (i j : Nat) (v : Value), i ≠ j → (V.setCell ⟨rb, i, none⟩ v).cell? ⟨rb, j, none⟩ = V.cell? ⟨rb, j, none⟩ := fun V i j v _ => World.cell?_setCell_other _ _ _ _ (by simp)
  refine ⟨?_, ?_, ?_, ?_, ?_, s5⟩
  · rw [o _ 5 0 _ (by omega), o _ 4 0 _ (by omega), o _ 3 0 _ (by omega), o _ 2 0 _ (by omega), o _ 1 0 _ (by omega), s0]
  · rw [o _ 5 1 _ (by omega), o _ 4 1 _ (by omega), o _ 3 1 _ (by omega), o _ 2 1 _ (by omega), s1]
  · rw [o _ 5 2 _ (by omega), o _ 4 2 _ (by omega), o _ 3 2 _ (by omega), s2]
  · rw [o _ 5 3 _ (by omega), o _ 4 3 _ (by omega), s3]
  · rw [o _ 5 4 _ (by omega), s4]

set_option maxRecDepth 100000 in
set_option maxHeartbeats 2000000 in
theorem Tryz.entryInfo (b : Nat) (k : Int) (u : Nat) (ak : Int) (au : Nat) (at_ tr : Int) (lv : Bool) (hu : u < 18446744073709551616) (hau : au < 18446744073709551616) (w : World) (hE : Tryz.Env w) (h6 : 6 ≤ w.heap.size)
    (h0 : w.cell? ⟨b, 0, none⟩ = some (.int .i64 ak)) (h1 : w.cell? ⟨b, 1, none⟩ = some (.int .u64 au)) (h2 : w.cell? ⟨b, 2, none⟩ = some (.int .u64 at_)) (h3 : w.cell? ⟨b, 3, none⟩ = some (.int .i64 tr)) (hb : b < w.heap.size) :
    Calls Tryz.prog 138 #[.pointer (some ⟨b, 0, none⟩), .agg #[.int .i64 k, .int .u64 u], .bool lv] w fun e w' => e = .returned (.agg (infoCells (nmStr k u) (if lv then 1 else 2) at_ tr (nmStr ak au) [])) ∧ Below w.heap.size w w' := by
  have hS1 := fun W (hI : Tryz.InfoS w w.heap.size b (w.heap.size + 1) k u ak au at_ tr W) => Tryz.nameString k u hu W hI.2.2.1 hI.2.2.2.1
  have hS2 := fun W (hI : Tryz.InfoS w w.heap.size b (w.heap.size + 1) k u ak au at_ tr W) => Tryz.nameString ak au hau W hI.2.2.1 hI.2.2.2.1
  generalize nmStr k u = s1 at *
  generalize nmStr ak au = s2 at *
  cases lv with
  | true =>
    go_enter Tryz.func138, Tryz.ntmps138
    go_wp2_with fail
    go_region_held3 (Tryz.InfoS w w.heap.size b (w.heap.size + 1) k u ak au at_ tr) (first
      | with_reducible exact (Tryz.InfoS.start hE h6 h0 h1 h2 h3 _ _ _ _ _ _).drew
      | with_reducible exact Tryz.InfoS.below (by assumption) (by assumption)
      | with_reducible exact ((((((Tryz.InfoS.set (by assumption) (by omega) (by omega) (by omega) h6 0 _).set (by omega) (by omega) (by omega) h6 1 _).set (by omega) (by omega) (by omega) h6 2 _).set (by omega) (by omega) (by omega) h6 3 _).set (by omega) (by omega) (by omega) h6 4 _).set (by omega) (by omega) (by omega) h6 5 _)) (first
      | (go_at_call_of 68 (Value.int .u64 (u : Int)); refine (hS1 _ (by assumption)).mono ?_; rintro e w1 ⟨rfl, hbS1⟩)
      | (go_at_call_of 68 (Value.int .u64 (au : Int)); refine (hS2 _ (by assumption)).mono ?_; rintro e w2 ⟨rfl, hbS2⟩))
    go_wp2
    rename_i hI
    have hBF := hI.2.2.2.2
    have hR := Row6.new (w.alloc (.cells #[.int .i64 k, .int .u64 u] 114)) 49 (.string ⟨#[]⟩) (.int .i64 0) (.int .u64 0) (.int .i64 0) (.string ⟨#[]⟩) (.string ⟨#[]⟩)
    rw [World.size_alloc] at hR
    obtain ⟨g0, g1, g2, g3, g4, g5⟩ := six_set (((hR.below (Grew.below (Grew.refl _).drew)).below hbS1).below hbS2) (.string ⟨s1.toArray⟩) (.int .i64 1) (.int .u64 at_) (.int .i64 tr) (.string ⟨s2.toArray⟩) (.string ⟨#[]⟩)
    clear hI hS1 hS2 h0 h1 h2 h3 hR hbS1 hbS2
    exact bodyPost_ret (v := .agg (infoCells s1 1 at_ tr s2 [])) (by simp [results, Tryz.results138, go_sem, g0, g1, g2, g3, g4, g5, infoCells]) rfl ⟨rfl, hBF⟩
  | false =>
    go_enter Tryz.func138, Tryz.ntmps138
    go_wp2_with fail
    go_region_held3 (Tryz.InfoS w w.heap.size b (w.heap.size + 1) k u ak au at_ tr) (first
      | with_reducible exact (Tryz.InfoS.start hE h6 h0 h1 h2 h3 _ _ _ _ _ _).drew
      | with_reducible exact Tryz.InfoS.below (by assumption) (by assumption)
      | with_reducible exact ((((((Tryz.InfoS.set (by assumption) (by omega) (by omega) (by omega) h6 0 _).set (by omega) (by omega) (by omega) h6 1 _).set (by omega) (by omega) (by omega) h6 2 _).set (by omega) (by omega) (by omega) h6 3 _).set (by omega) (by omega) (by omega) h6 4 _).set (by omega) (by omega) (by omega) h6 5 _)) (first
      | (go_at_call_of 68 (Value.int .u64 (u : Int)); refine (hS1 _ (by assumption)).mono ?_; rintro e w1 ⟨rfl, hbS1⟩)
      | (go_at_call_of 68 (Value.int .u64 (au : Int)); refine (hS2 _ (by assumption)).mono ?_; rintro e w2 ⟨rfl, hbS2⟩))
    go_wp2
    rename_i hI
    have hBF := hI.2.2.2.2
    have hR := Row6.new (w.alloc (.cells #[.int .i64 k, .int .u64 u] 114)) 49 (.string ⟨#[]⟩) (.int .i64 0) (.int .u64 0) (.int .i64 0) (.string ⟨#[]⟩) (.string ⟨#[]⟩)
    rw [World.size_alloc] at hR
    obtain ⟨g0, g1, g2, g3, g4, g5⟩ := six_set (((hR.below (Grew.below (Grew.refl _).drew)).below hbS1).below hbS2) (.string ⟨s1.toArray⟩) (.int .i64 2) (.int .u64 at_) (.int .i64 tr) (.string ⟨s2.toArray⟩) (.string ⟨#[]⟩)
    clear hI hS1 hS2 h0 h1 h2 h3 hR hbS1 hbS2
    exact bodyPost_ret (v := .agg (infoCells s1 2 at_ tr s2 [])) (by simp [results, Tryz.results138, go_sem, g0, g1, g2, g3, g4, g5, infoCells]) rfl ⟨rfl, hBF⟩

set_option maxRecDepth 100000 in
set_option maxHeartbeats 2000000 in
theorem Tryz.tokenInfo (b : Nat) (k : Int) (u : Nat) (ak : Int) (au : Nat) (at_ tr : Int) (pd : Bool) (hu : u < 18446744073709551616) (hau : au < 18446744073709551616) (w : World) (hE : Tryz.Env w) (h6 : 6 ≤ w.heap.size)
    (h0 : w.cell? ⟨b, 0, none⟩ = some (.int .i64 ak)) (h1 : w.cell? ⟨b, 1, none⟩ = some (.int .u64 au)) (h2 : w.cell? ⟨b, 2, none⟩ = some (.int .u64 at_)) (h3 : w.cell? ⟨b, 3, none⟩ = some (.int .i64 tr)) (h4 : w.cell? ⟨b, 4, none⟩ = some (.bool pd)) :
    Calls Tryz.prog 80 #[.pointer (some ⟨b, 0, none⟩), .agg #[.int .i64 k, .int .u64 u]] w fun e w' => e = .returned (.agg (infoCells (nmStr k u) (if !pd then 1 else 2) at_ tr (nmStr ak au) [])) ∧ Below w.heap.size w w' := by
  have hb : b < w.heap.size := World.block_lt_of_cell? _ _ h0
  have hS1 := fun W (hI : Tryz.InfoP w w.heap.size b (w.heap.size + 1) k u ak au at_ tr pd W) => Tryz.entryLive b pd W hI.2
  have hS2 := fun W (hI : Tryz.InfoP w w.heap.size b (w.heap.size + 1) k u ak au at_ tr pd W) => Tryz.entryInfo b k u ak au at_ tr (!pd) hu hau W hI.1.2.2.1 hI.1.2.2.2.1 hI.1.1.2.2.1 hI.1.1.2.2.2.1 hI.1.1.2.2.2.2.1 hI.1.1.2.2.2.2.2 (Nat.lt_of_lt_of_le hb hI.1.2.2.2.2.size)
  generalize nmStr k u = s1 at *
  generalize nmStr ak au = s2 at *
  unfold infoCells at hS2 ⊢
  generalize (if !pd then (1 : Int) else 2) = st at *
  go_enter Tryz.func80, Tryz.ntmps80
  go_wp2_with fail
  go_region_held3 (Tryz.InfoP w w.heap.size b (w.heap.size + 1) k u ak au at_ tr pd) (first
    | with_reducible exact Tryz.InfoP.start hE h6 h0 h1 h2 h3 h4 _ _ _ _ _ _
    | with_reducible exact Tryz.InfoP.below (by assumption) (by assumption)
    | with_reducible assumption
    | with_reducible exact ((((((Tryz.InfoP.set (by assumption) (by omega) (by omega) (by omega) h6 0 _).set (by omega) (by omega) (by omega) h6 1 _).set (by omega) (by omega) (by omega) h6 2 _).set (by omega) (by omega) (by omega) h6 3 _).set (by omega) (by omega) (by omega) h6 4 _).set (by omega) (by omega) (by omega) h6 5 _)) (first
    | (go_at_call 89; refine (hS1 _ (by assumption)).mono ?_; rintro e w1 ⟨rfl, rfl⟩)
    | (go_at_call 138; refine (hS2 _ (by assumption)).mono ?_; rintro e w2 ⟨rfl, hbS2⟩))
  go_wp2
  rename_i hI
  have hBF := hI.1.2.2.2.2
  have hR := Row6.new (w.alloc (.cells #[.int .i64 k, .int .u64 u] 114)) 49 (.string ⟨#[]⟩) (.int .i64 0) (.int .u64 0) (.int .i64 0) (.string ⟨#[]⟩) (.string ⟨#[]⟩)
  rw [World.size_alloc] at hR
  obtain ⟨g0, g1, g2, g3, g4, g5⟩ := six_set ((hR.below (Grew.below (Grew.refl _).drew)).below hbS2) (.string ⟨s1.toArray⟩) (.int .i64 st) (.int .u64 at_) (.int .i64 tr) (.string ⟨s2.toArray⟩) (.string ⟨#[]⟩)
  clear hI hS1 hS2 h0 h1 h2 h3 hR hbS2
  exact bodyPost_ret (v := .agg #[.string ⟨s1.toArray⟩, .int .i64 st, .int .u64 at_, .int .i64 tr, .string ⟨s2.toArray⟩, .string ⟨#[]⟩]) (by simp [results, Tryz.results80, go_sem, g0, g1, g2, g3, g4, g5]) rfl ⟨rfl, hBF⟩
end Go.Proofs
