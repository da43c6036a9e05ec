import Derived.Test.YthifclklnopkfaaGreatDoorRefD
/-
  The statements' own functions: sameInfos, changes, looks.
-/

namespace Go.Proofs
open Go.RowKit Go.Sort Go.Lib Go.Shelf Go.Maps

theorem flatI_get : ∀ (xs : List InfoD) (k j : Nat) (t : InfoD), xs[k]? = some t → j < 6 → (flatI xs)[k * 6 + j]? = t.cells[j]?
  | [], _, _, _, h, _ => by simp at h
  | x :: xs, 0, j, t, h, hj => by
    obtain rfl : x = t := by simpa using h
    show (x.cells.toList ++ flatI xs)[0 * 6 + j]? = _
    rw [List.getElem?_append_left (by rw [InfoD.cells_size]; omega)]
    simp
  | x :: xs, k + 1, j, t, h, hj => by
    show (x.cells.toList ++ flatI xs)[(k + 1) * 6 + j]? = _
    rw [List.getElem?_append_right (by rw [InfoD.cells_size]; omega), InfoD.cells_size, show (k + 1) * 6 + j - 6 = k * 6 + j by omega]
    exact flatI_get xs k j t (by simpa using h) hj
theorem infoRow {B : Nat} {W : World} {g cap n : Nat} {e : TypeId} {xs : List InfoD} (h : W.ownsRow B e 6 (.slice (some ⟨g, 0, none⟩) n cap) n (flatI xs)) {k : Nat} {t : InfoD} (hk : xs[k]? = some t) :
    W.cell? ⟨g, k * 6, none⟩ = some (.string ⟨t.id.toArray⟩) ∧ W.cell? ⟨g, k * 6 + 1, none⟩ = some (.int .i64 t.st) ∧ W.cell? ⟨g, k * 6 + 2, none⟩ = some (.int .u64 t.at_) ∧ W.cell? ⟨g, k * 6 + 3, none⟩ = some (.int .i64 t.tr) ∧ W.cell? ⟨g, k * 6 + 4, none⟩ = some (.string ⟨t.tok.toArray⟩) ∧ W.cell? ⟨g, k * 6 + 5, none⟩ = some (.string ⟨t.pth.toArray⟩) := by
  have c : ∀ j, j < 6 → W.cell? ⟨g, k * 6 + j, none⟩ = t.cells[j]? := fun j hj => by
    have hc := h.cells (g := g) rfl (k * 6 + j)
    have hs : j < t.cells.size := hj
    have := hc (t.cells[j]) (by rw [flatI_get xs k j t hk hj]; simp [hs])
    rw [Lib.add_plain] at this
    simp only [Nat.zero_add] at this
    rw [this]; simp [hs]
  exact ⟨c 0 (by omega), c 1 (by omega), c 2 (by omega), c 3 (by omega), c 4 (by omega), c 5 (by omega)⟩

theorem Tryz.infoStruct : Tryz.prog.underlying 40 = some (.struct (Tryz.prog.fieldsOf 40)) := by kernel_rfl
theorem Tryz.infoHeld : Tryz.prog.stoodInHeld 40 = false := by kernel_rfl
theorem Tryz.infoGuard : Tryz.prog.eqGuardType Tryz.prog.depth 40 = false := by kernel_rfl
set_option maxHeartbeats 1000000 in
theorem Tryz.infoNeq (x y : InfoD) (W : World) : (binOp .neq 40 (.agg x.cells) (.agg y.cells)).run Tryz.prog W = .ok (.bool (!(x.id == y.id && x.st == y.st && x.at_ == y.at_ && x.tr == y.tr && x.tok == y.tok && x.pth == y.pth))) W := by
  obtain ⟨a0, a1, a2, a3, a4, a5⟩ := x
  obtain ⟨b0, b1, b2, b3, b4, b5⟩ := y
  rw [run_neq_struct, run_equalIn_struct W 9999 _ _ _ Tryz.infoStruct Tryz.infoHeld]
  simp only [Program.fieldsOf, Tryz.underlying40]
  simp [InfoD.cells, infoCells, Op.eqFields, go_sem]
  by_cases h0 : a0 = b0 <;> by_cases h1 : a1 = b1 <;> by_cases h2 : a2 = b2 <;> by_cases h3 : a3 = b3 <;> by_cases h4 : a4 = b4 <;> by_cases h5 : a5 = b5 <;> simp_all

set_option maxRecDepth 100000 in
set_option maxHeartbeats 4000000 in
theorem Tryz.sameInfos (B B' n m : Nat) (u v : Value) (xs ys : List InfoD) (w : World) (hA : w.ownsRow B 40 6 u n (flatI xs)) (hB : w.ownsRow B' 40 6 v m (flatI ys)) (hn : xs.length = n) (hm : ys.length = m) (hl : n ≤ 1000) (hl' : m ≤ 1000) :
    Calls Tryz.prog 34 #[u, v] w fun e w' => ∃ b, e = .returned (.bool b) ∧ (xs = ys → b = true) ∧ Below w.heap.size w w' := by
  have hU : ∃ p c, u = .slice p n c := by
    rcases hA.2 with ⟨rfl, h0⟩ | ⟨g, cap, cur, rfl, _⟩
    · exact ⟨none, 0, by rw [h0]⟩
    · exact ⟨_, _, rfl⟩
  have hV : ∃ p c, v = .slice p m c := by
    rcases hB.2 with ⟨rfl, h0⟩ | ⟨g, cap, cur, rfl, _⟩
    · exact ⟨none, 0, by rw [h0]⟩
    · exact ⟨_, _, rfl⟩
  obtain ⟨p, c, rfl⟩ := hU
  obtain ⟨q, d, rfl⟩ := hV
  by_cases hnm : n = m
  · subst hnm
    go_enter Tryz.func34, Tryz.ntmps34
    go_wp2
    go_loopw [5] (fun i wr => ∃ k : Nat, k ≤ n ∧ i = .int .i64 k ∧ Below w.heap.size w wr) (fun i _ => n - (intOf i).toNat)
    case atStart => exact ⟨0, Nat.zero_le _, rfl, Below.refl _ _⟩
    case round =>
      obtain ⟨k, hk, rfl, hBw⟩ := hrel
      by_cases hkn : k < n
      · obtain ⟨x, hx⟩ : ∃ x, xs[k]? = some x := ⟨xs[k]'(by omega), by simp⟩
        obtain ⟨y, hy⟩ : ∃ y, ys[k]? = some y := ⟨ys[k]'(by omega), by simp⟩
        obtain ⟨g, rfl⟩ : ∃ g, p = some ⟨g, 0, none⟩ := by
          rcases hA.2 with ⟨h, h0⟩ | ⟨g, _, _, h, _⟩
          · omega
          · simp at h; exact ⟨g, h.1⟩
        obtain ⟨g', rfl⟩ : ∃ g, q = some ⟨g, 0, none⟩ := by
          rcases hB.2 with ⟨h, h0⟩ | ⟨g, _, _, h, _⟩
          · omega
          · simp at h; exact ⟨g, h.1⟩
        obtain ⟨x0, x1, x2, x3, x4, x5⟩ := infoRow (ownsRow_below hA hBw) hx
        obtain ⟨y0, y1, y2, y3, y4, y5⟩ := infoRow (ownsRow_below hB hBw) hy
        have hnq := Tryz.infoNeq x y
        have hHx := hid_intro hx
        have hHy := hid_intro hy
        clear hx hy
        obtain ⟨a0, a1, a2, a3, a4, a5⟩ := x
        obtain ⟨b0, b1, b2, b3, b4, b5⟩ := y
        simp only [InfoD.cells, infoCells] at hnq x0 x1 x2 x3 x4 x5 y0 y1 y2 y3 y4 y5
        obtain ⟨bq, hbq⟩ : ∃ bq, (!(a0 == b0 && a1 == b1 && a2 == b2 && a3 == b3 && a4 == b4 && a5 == b5)) = bq := ⟨_, rfl⟩
        rw [hbq] at hnq
        have hsame : Hid (xs = ys → bq = false) := hid_intro (fun e => by
          have h1 := hid_elim hHx
          have h2 := hid_elim hHy
          rw [e, h2] at h1
          obtain ⟨e0, e1, e2, e3, e4, e5⟩ : b0 = a0 ∧ b1 = a1 ∧ b2 = a2 ∧ b3 = a3 ∧ b4 = a4 ∧ b5 = a5 := by simpa using h1
          rw [← hbq, e0, e1, e2, e3, e4, e5]
          simp)
        clear hbq
        cases bq
        · go_wp2
          go_quiet (fail)
          go_wp2
          go_roundw
          case rel => exact ⟨k + 1, by omega, rfl, below_drewN hBw _⟩
          case measure => simp [intOf]; omega
        · go_wp2
          go_quiet (fail)
          go_wp2
          go_ret
          exact ⟨false, rfl, fun e => absurd (hid_elim hsame e) (by simp), below_drewN hBw _⟩
      · obtain rfl : k = n := by omega
        go_wp2
        go_ret
        exact ⟨true, rfl, fun _ => rfl, hBw⟩
  · have hne : ((n : Int) == (m : Int)) = false := by simp; omega
    go_enter Tryz.func34, Tryz.ntmps34
    go_wp2
    go_ret
    exact ⟨false, rfl, fun e => absurd (by rw [← hn, ← hm, e]) hnm, Below.refl _ _⟩
end Go.Proofs
