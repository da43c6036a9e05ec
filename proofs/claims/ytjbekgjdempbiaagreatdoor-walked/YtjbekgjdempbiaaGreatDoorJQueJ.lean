import Derived.Test.YtjbekgjdempbiaaGreatDoorJHeapP
import Derived.Test.YtjbekgjdempbiaaGreatDoorJStr
import Derived.BigQuiet
import Derived.BigRegion
import Derived.WalkMore
import Derived.Deep.RegionHeld3
import Derived.Laws.OwnMore
import Derived.Test.YtjbekgjdempbiaaGreatDoorJPutL
import Derived.Test.YtjbekgjdempbiaaGreatDoorJRefF
import Derived.Deep.RegionHeldLaw
import Derived.Deep.RegionLaw
import Derived.Deep.AppendLies
import Derived.ScopeJumps
/-
  The queue, with whatever is in it: least.
-/
namespace Go.Proofs
open Go.RowKit Go.Sort

theorem leastT_snoc (xs : List TurnD) (p : Nat) : ∀ (os : List Nat) (f : Nat), leastT xs f (os ++ [p]) = if p < xs.length ∧ ltT (getT xs p) (getT xs (leastT xs f os)) then p else leastT xs f os
  | [], f => rfl
  | q :: os, f => by
    simp only [List.cons_append, leastT]
    exact leastT_snoc xs p os _
theorem leastT_lt {xs : List TurnD} : ∀ {os : List Nat} {f : Nat}, f < xs.length → leastT xs f os < xs.length
  | [], f, h => h
  | q :: os, f, h => by
    simp only [leastT]
    by_cases c : q < xs.length ∧ ltT (getT xs q) (getT xs f)
    · rw [if_pos c]; exact leastT_lt c.1
    · rw [if_neg c]; exact leastT_lt h
theorem leastT_out {xs : List TurnD} : ∀ {os : List Nat} {f : Nat}, (∀ p ∈ os, xs.length ≤ p) → leastT xs f os = f
  | [], f, _ => rfl
  | q :: os, f, h => by
    simp only [leastT]
    rw [if_neg (fun c => by have := h q (by simp); omega)]
    exact leastT_out (fun p hp => h p (by simp [hp]))

/-- the queue's places in memory. -/
structure Tryz.QP (vb g cap : Nat) (xs : List TurnD) (W : World) : Prop where
  c : W.cell? ⟨vb, 8, none⟩ = some (.slice (some ⟨g, 0, none⟩) xs.length cap)
  r : ∀ i t, xs[i]? = some t → W.cell? ⟨g, i * 3, none⟩ = some (.int .u64 t.at_) ∧ W.cell? ⟨g, i * 3 + 1, none⟩ = some (.int .i64 t.k) ∧ W.cell? ⟨g, i * 3 + 2, none⟩ = some (.int .u64 t.n)
theorem cellB {W W' : World} (h : Below W.heap.size W W') {a : Addr} {v : Value} (hc : W.cell? a = some v) : W'.cell? a = some v :=
  (h.cell (World.block_lt_of_cell? W a hc)).trans hc
theorem Tryz.QP.below {vb g cap : Nat} {xs : List TurnD} {W W' : World} (h : Tryz.QP vb g cap xs W) (hb : Below W.heap.size W W') : Tryz.QP vb g cap xs W' :=
  ⟨cellB hb h.c, fun i t ht => by obtain ⟨a, b, c⟩ := h.r i t ht; exact ⟨cellB hb a, cellB hb b, cellB hb c⟩⟩
abbrev Tryz.Q2P (vb g cap n i j : Nat) (x y : TurnD) (W : World) : Prop :=
  W.cell? ⟨vb, 8, none⟩ = some (.slice (some ⟨g, 0, none⟩) n cap) ∧ (W.cell? ⟨g, i * 3, none⟩ = some (.int .u64 x.at_) ∧ W.cell? ⟨g, i * 3 + 1, none⟩ = some (.int .i64 x.k) ∧ W.cell? ⟨g, i * 3 + 2, none⟩ = some (.int .u64 x.n)) ∧ (W.cell? ⟨g, j * 3, none⟩ = some (.int .u64 y.at_) ∧ W.cell? ⟨g, j * 3 + 1, none⟩ = some (.int .i64 y.k) ∧ W.cell? ⟨g, j * 3 + 2, none⟩ = some (.int .u64 y.n))
theorem Tryz.QP.two {vb g cap i j : Nat} {x y : TurnD} {xs : List TurnD} {W : World} (h : Tryz.QP vb g cap xs W) (hi : xs[i]? = some x) (hj : xs[j]? = some y) : Tryz.Q2P vb g cap xs.length i j x y W := ⟨h.c, h.r i x hi, h.r j y hj⟩

set_option maxRecDepth 100000 in
set_option maxHeartbeats 4000000 in
theorem Tryz.qLeast (vb g cap ob : Nat) (xs : List TurnD) (f : Nat) (os : List Nat) (w : World) (hQ : Tryz.QP vb g cap xs w) (hO : ∀ j p : Nat, os[j]? = some p → w.cell? ⟨ob, j, none⟩ = some (.int .i64 (p : Int))) (hf : f < xs.length ∨ ∀ p ∈ os, xs.length ≤ p) (hol : os.length ≤ 10) (hop : ∀ p ∈ os, p ≤ 3000) :
    Calls Tryz.prog 133 #[.pointer (some ⟨vb, 8, none⟩), .int .i64 f, .slice (some ⟨ob, 0, none⟩) os.length os.length] w fun e w' => e = .returned (.int .i64 (leastT xs f os : Nat)) ∧ Below w.heap.size w w' := by
  obtain ⟨len, hlen⟩ : ∃ len, os.length = len := ⟨_, rfl⟩
  rw [hlen] at hol ⊢
  have Hlen := hid_intro hlen
  clear hlen
  obtain ⟨n, hnn⟩ : ∃ n, xs.length = n := ⟨_, rfl⟩
  have Hn := hid_intro hnn
  clear hnn
  go_enter Tryz.func133, Tryz.ntmps133
  go_wp2
  go_loopw [7, 13] (fun l i wr => ∃ k ll : Nat, k ≤ len ∧ i = .int .i64 k ∧ l = .int .i64 ll ∧ Hid (ll = leastT xs f (os.take k)) ∧ Below w.heap.size w wr) (fun _ i _ => len - (intOf i).toNat)
  case atStart => exact ⟨0, f, Nat.zero_le _, rfl, rfl, hid_intro rfl, Below.refl _ _⟩
  case round =>
    obtain ⟨k, ll, hk, rfl, rfl, hll, hBw⟩ := hrel
    by_cases hkl : k < len
    · obtain ⟨p, hp⟩ : ∃ p, os[k]? = some p := ⟨os[k]'(by have := hid_elim Hlen; omega), by have := hid_elim Hlen; simp [this, hkl]⟩
      have ho := cell_later hBw (hO k p hp)
      have hp3 := hop p (List.mem_of_getElem? hp)
      have hsn := hid_intro (leastT_snoc xs p (os.take k) f)
      have htk : Hid (os.take (k + 1) = os.take k ++ [p]) := hid_intro (by rw [List.take_add_one, hp]; rfl)
      have hQw := hQ.below hBw
      have hc8 := hQw.c
      rw [hid_elim Hn] at hc8
      by_cases hpn : p < n
      · have hlx : ll < n := by
          rw [hid_elim hll, ← hid_elim Hn]
          exact leastT_lt (hf.resolve_right (fun h => by have := h p (List.mem_of_getElem? hp); have := hid_elim Hn; omega))
        obtain ⟨x, hx⟩ : ∃ x, xs[p]? = some x := ⟨getT xs p, getT_some (by rw [hid_elim Hn]; exact hpn)⟩
        obtain ⟨y, hy⟩ : ∃ y, xs[ll]? = some y := ⟨getT xs ll, getT_some (by rw [hid_elim Hn]; exact hlx)⟩
        have hq2 := hQw.two hx hy
        rw [hid_elim Hn] at hq2
        have hC := fun W => Tryz.turnCmp x y W
        have hm := fun W => Tryz.method_turn x W
        have hres : Hid (leastT xs f (os.take (k + 1)) = if cmpT x y < 0 then p else ll) := hid_intro (by
          rw [hid_elim htk, hid_elim hsn, ← hid_elim hll, getT_of hx, getT_of hy]
          by_cases hc : ltT x y
          · rw [if_pos ⟨by rw [hid_elim Hn]; exact hpn, hc⟩, if_pos ((cmpT_neg x y).2 hc)]
          · rw [if_neg (fun h => hc h.2), if_neg (fun h => hc ((cmpT_neg x y).1 h))])
        obtain ⟨c, hcc⟩ : ∃ c, cmpT x y = c := ⟨_, rfl⟩
        rw [hcc] at hres
        simp only [hcc] at hC
        obtain ⟨x1, x2, x3⟩ := x
        obtain ⟨y1, y2, y3⟩ := y
        simp only [TurnD.cells, Tryz.Q2P] at hC hm hq2
        have hpi : (p : Int) < (n : Int) := by omega
        have hp0 : (0 : Int) ≤ (p : Int) := by omega
        have hli : (ll : Int) < (n : Int) := by omega
        have hl0 : (0 : Int) ≤ (ll : Int) := by omega
        have hq3 : Tryz.Q2P vb g cap n p ll ⟨x1, x2, x3⟩ ⟨y1, y2, y3⟩ wr.drew := hq2
        clear hcc hx hy hQw hc8 hp hsn htk hO hop hQ hf hq2
        go_wp2_with fail
        have hd1 : decide ((p : Int) < (n : Int)) = true := decide_eq_true hpi
        go_region_held3 (Tryz.Q2P vb g cap n p ll ⟨x1, x2, x3⟩ ⟨y1, y2, y3⟩) (first
          | with_reducible exact hq3
          | with_reducible exact hq5
          | with_reducible assumption) (first
          | (go_at_call 337; refine (hC _).mono ?_; rintro e w5 ⟨rfl, hg5⟩; have hb5 : Below wr.heap.size wr w5 := ((Below.refl _ wr).drew).trans (Grew.below hg5); have hq5 : Tryz.Q2P vb g cap n p ll ⟨x1, x2, x3⟩ ⟨y1, y2, y3⟩ w5 := ⟨cellB hb5 hq3.1, ⟨cellB hb5 hq3.2.1.1, cellB hb5 hq3.2.1.2.1, cellB hb5 hq3.2.1.2.2⟩, ⟨cellB hb5 hq3.2.2.1, cellB hb5 hq3.2.2.2.1, cellB hb5 hq3.2.2.2.2⟩⟩))
        have hB5 := hBw.trans (hb5.mono hBw.size)
        clear hq5 hq3 hC hm
        by_cases hc0 : c < 0
        · rw [if_pos hc0] at hres
          go_wp2
          exact ⟨⟨k + 1, p, by omega, rfl, rfl, hid_intro (hid_elim hres).symm, hB5⟩, by simp [intOf]; omega⟩
        · rw [if_neg hc0] at hres
          go_wp2
          exact ⟨⟨k + 1, ll, by omega, rfl, rfl, hid_intro (hid_elim hres).symm, hB5⟩, by simp [intOf]; omega⟩
      · have hpi : ¬ (p : Int) < (n : Int) := by omega
        have hres : Hid (leastT xs f (os.take (k + 1)) = ll) := hid_intro (by
          rw [hid_elim htk, hid_elim hsn, if_neg (fun h => hpn (by have := h.1; rw [hid_elim Hn] at this; exact this)), ← hid_elim hll])
        clear hsn htk hO hop hQ hf hQw hp
        go_wp2_with fail
        go_quiet (fail)
        go_wp2
        exact ⟨⟨k + 1, ll, by omega, rfl, rfl, hid_intro (hid_elim hres).symm, below_drewN hBw _⟩, by simp [intOf]; omega⟩
    · obtain rfl : k = len := by omega
      have hta : os.take k = os := List.take_of_length_le (by have := hid_elim Hlen; omega)
      rw [hta] at hll
      go_wp2
      go_ret
      exact ⟨ret_int (by rw [hid_elim hll]), hBw⟩
end Go.Proofs

/-
  The queue, with whatever is in it: swap, cut.
-/
namespace Go.Proofs
open Go.RowKit Go.Sort

def flatQ (xs : List TurnD) : List Value := xs.flatMap fun x => x.cells.toList
theorem flatQ_length (xs : List TurnD) : (flatQ xs).length = xs.length * 3 := by
  induction xs with
  | nil => rfl
  | cons x xs ih => simp only [flatQ, List.flatMap_cons, List.length_append, List.length_cons] at ih ⊢; rw [ih]; simp [TurnD.cells]; omega
theorem flatQ_get : ∀ (xs : List TurnD) (k j : Nat) (t : TurnD), xs[k]? = some t → j < 3 → (flatQ xs)[k * 3 + j]? = t.cells[j]?
  | [], _, _, _, h, _ => by simp at h
  | x :: xs, 0, j, t, h, hj => by
    obtain rfl : x = t := by simpa using h
    show (x.cells.toList ++ flatQ xs)[0 * 3 + j]? = _
    rw [List.getElem?_append_left (by simp [TurnD.cells]; omega)]
    simp
  | x :: xs, k + 1, j, t, h, hj => by
    show (x.cells.toList ++ flatQ xs)[(k + 1) * 3 + j]? = _
    rw [List.getElem?_append_right (by simp [TurnD.cells]; omega), show x.cells.toList.length = 3 from rfl, show (k + 1) * 3 + j - 3 = k * 3 + j by omega]
    exact flatQ_get xs k j t (by simpa using h) hj
theorem flatQ_set : ∀ (xs : List TurnD) (k : Nat) (t : TurnD), k < xs.length → flatQ (xs.set k t) = (((flatQ xs).set (k * 3) (.int .u64 t.at_)).set (k * 3 + 1) (.int .i64 t.k)).set (k * 3 + 2) (.int .u64 t.n)
  | [], _, _, h => by simp at h
  | x :: xs, 0, t, h => by
    show t.cells.toList ++ flatQ xs = (((x.cells.toList ++ flatQ xs).set 0 _).set 1 _).set 2 _
    rfl
  | x :: xs, k + 1, t, h => by
    have ih := flatQ_set xs k t (by simpa using h)
    show x.cells.toList ++ flatQ (xs.set k t) = (((x.cells.toList ++ flatQ xs).set ((k + 1) * 3) _).set ((k + 1) * 3 + 1) _).set ((k + 1) * 3 + 2) _
    rw [ih, List.set_append_right _ _ (by simp [TurnD.cells]; omega), List.set_append_right _ _ (by simp [TurnD.cells]; omega), List.set_append_right _ _ (by simp [TurnD.cells]; omega)]
    rw [show x.cells.toList.length = 3 from rfl, show (k + 1) * 3 - 3 = k * 3 by omega, show (k + 1) * 3 + 1 - 3 = k * 3 + 1 by omega, show (k + 1) * 3 + 2 - 3 = k * 3 + 2 by omega]
theorem swapT_self {xs : List TurnD} {i : Nat} (hi : i < xs.length) : swapT xs i i = xs := by
  unfold swapT
  have e2 : getT xs i = xs[i] := getT_of (by simp [hi])
  rw [List.set_set, e2]
  exact List.set_getElem_self hi
theorem row_three {w : World} {B g n cap : Nat} {e : TypeId} {xs : List TurnD} (h : w.ownsRow B e 3 (.slice (some ⟨g, 0, none⟩) n cap) n (flatQ xs)) {i : Nat} {t : TurnD} (hi : xs[i]? = some t) : w.cell? ⟨g, i * 3, none⟩ = some (.int .u64 t.at_) ∧ w.cell? ⟨g, i * 3 + 1, none⟩ = some (.int .i64 t.k) ∧ w.cell? ⟨g, i * 3 + 2, none⟩ = some (.int .u64 t.n) := by
  have hn : n = xs.length := by have := h.1; rw [flatQ_length] at this; omega
  have hil : i < xs.length := (List.getElem?_eq_some_iff.1 hi).1
  refine ⟨?_, ?_, ?_⟩
  · rw [h.cellAt (i * 3) (by omega)]; exact flatQ_get xs i 0 t hi (by omega)
  · rw [h.cellAt (i * 3 + 1) (by omega)]; exact flatQ_get xs i 1 t hi (by omega)
  · rw [h.cellAt (i * 3 + 2) (by omega)]; exact flatQ_get xs i 2 t hi (by omega)

set_option maxRecDepth 100000 in
set_option maxHeartbeats 4000000 in
theorem Tryz.qSwapNe (B vb g cap n : Nat) (xs : List TurnD) (i j : Nat) (w : World) (c8 : w.cell? ⟨vb, 8, none⟩ = some (.slice (some ⟨g, 0, none⟩) n cap)) (hrow : w.ownsRow B 144 3 (.slice (some ⟨g, 0, none⟩) n cap) n (flatQ xs)) (hi : i < xs.length) (hj : j < xs.length) (hne : i ≠ j) :
    Calls Tryz.prog 132 #[.pointer (some ⟨vb, 8, none⟩), .int .i64 i, .int .i64 j] w fun e w' => e = .returned (.tuple #[]) ∧ w'.ownsRow B 144 3 (.slice (some ⟨g, 0, none⟩) n cap) n (flatQ (swapT xs i j)) ∧ Spares [g] w w' := by
  have hn : n = xs.length := by have := hrow.1; rw [flatQ_length] at this; omega
  obtain ⟨x, hx⟩ : ∃ x, getT xs i = x := ⟨_, rfl⟩
  obtain ⟨y, hy⟩ : ∃ y, getT xs j = y := ⟨_, rfl⟩
  obtain ⟨t0, t1, t2⟩ := row_three hrow (hx ▸ getT_some hi)
  obtain ⟨s0, s1, s2⟩ := row_three hrow (hy ▸ getT_some hj)
  have hfl : Hid (flatQ (swapT xs i j) = ((((((flatQ xs).set (i * 3) (.int .u64 y.at_)).set (i * 3 + 1) (.int .i64 y.k)).set (i * 3 + 2) (.int .u64 y.n)).set (j * 3) (.int .u64 x.at_)).set (j * 3 + 1) (.int .i64 x.k)).set (j * 3 + 2) (.int .u64 x.n)) := hid_intro (by
    unfold swapT
    rw [hx, hy, flatQ_set _ j x (by simpa using hj), flatQ_set xs i y hi])
  have f0 := fun o => hrow.frozenAt o
  obtain ⟨x1, x2, x3⟩ := x
  obtain ⟨y1, y2, y3⟩ := y
  simp only at t0 t1 t2 s0 s1 s2 hfl
  have HR := hid_intro hrow
  clear hrow hx hy
  have hii : (i : Int) < (n : Int) := by omega
  have hjj : (j : Int) < (n : Int) := by omega
  have hi0 : (0 : Int) ≤ (i : Int) := by omega
  have hj0 : (0 : Int) ≤ (j : Int) := by omega
  have n1 : i * 3 ≠ j * 3 := by omega
  have n2 : i * 3 ≠ j * 3 + 1 := by omega
  have n3 : i * 3 ≠ j * 3 + 2 := by omega
  have n4 : i * 3 + 1 ≠ j * 3 := by omega
  have n5 : i * 3 + 1 ≠ j * 3 + 1 := by omega
  have n6 : i * 3 + 1 ≠ j * 3 + 2 := by omega
  have n7 : i * 3 + 2 ≠ j * 3 := by omega
  have n8 : i * 3 + 2 ≠ j * 3 + 1 := by omega
  have n9 : i * 3 + 2 ≠ j * 3 + 2 := by omega
  clear hn hi hj hne
  go_enter Tryz.func132, Tryz.ntmps132
  go_region
  go_end0
  have hrow := hid_elim HR
  have r1 := (hrow.stored (i * 3) (.int .u64 y1)).1
  have r2 := (r1.stored (i * 3 + 1) (.int .i64 y2)).1
  have r3 := (r2.stored (i * 3 + 2) (.int .u64 y3)).1
  have r4 := (r3.stored (j * 3) (.int .u64 x1)).1
  have r5 := (r4.stored (j * 3 + 1) (.int .i64 x2)).1
  have r6 := (r5.stored (j * 3 + 2) (.int .u64 x3)).1
  have hs : Spares [g] w w := Spares.of_below (Below.refl _ _)
  rw [← hid_elim hfl] at r6
  exact ⟨rfl, r6.drew, ((((((hs.set (by simp) _ _).set (by simp) _ _).set (by simp) _ _).set (by simp) _ _).set (by simp) _ _).set (by simp) _ _).drew⟩

set_option maxRecDepth 100000 in
set_option maxHeartbeats 4000000 in
theorem Tryz.qSwapEq (B vb g cap n : Nat) (xs : List TurnD) (i : Nat) (w : World) (c8 : w.cell? ⟨vb, 8, none⟩ = some (.slice (some ⟨g, 0, none⟩) n cap)) (hrow : w.ownsRow B 144 3 (.slice (some ⟨g, 0, none⟩) n cap) n (flatQ xs)) (hi : i < xs.length) :
    Calls Tryz.prog 132 #[.pointer (some ⟨vb, 8, none⟩), .int .i64 i, .int .i64 i] w fun e w' => e = .returned (.tuple #[]) ∧ w'.ownsRow B 144 3 (.slice (some ⟨g, 0, none⟩) n cap) n (flatQ xs) ∧ Spares [g] w w' := by
  have hn : n = xs.length := by have := hrow.1; rw [flatQ_length] at this; omega
  obtain ⟨x, hx⟩ : ∃ x, getT xs i = x := ⟨_, rfl⟩
  obtain ⟨t0, t1, t2⟩ := row_three hrow (hx ▸ getT_some hi)
  have hfl : Hid (((((((flatQ xs).set (i * 3) (.int .u64 x.at_)).set (i * 3 + 1) (.int .i64 x.k)).set (i * 3 + 2) (.int .u64 x.n)).set (i * 3) (.int .u64 x.at_)).set (i * 3 + 1) (.int .i64 x.k)).set (i * 3 + 2) (.int .u64 x.n) = flatQ xs) := hid_intro (by
    have h := swapT_self hi
    unfold swapT at h
    rw [hx] at h
    rw [← flatQ_set xs i x hi, ← flatQ_set _ i x (by simpa using hi), h])
  have f0 := fun o => hrow.frozenAt o
  obtain ⟨x1, x2, x3⟩ := x
  simp only at t0 t1 t2 hfl
  have HR := hid_intro hrow
  clear hrow hx
  have hii : (i : Int) < (n : Int) := by omega
  have hi0 : (0 : Int) ≤ (i : Int) := by omega
  have n4 : i * 3 + 1 ≠ i * 3 := by omega
  have n7 : i * 3 + 2 ≠ i * 3 := by omega
  have n8 : i * 3 + 2 ≠ i * 3 + 1 := by omega
  clear hn hi
  go_enter Tryz.func132, Tryz.ntmps132
  go_region
  go_end0
  have hrow := hid_elim HR
  have r1 := (hrow.stored (i * 3) (.int .u64 x1)).1
  have r2 := (r1.stored (i * 3 + 1) (.int .i64 x2)).1
  have r3 := (r2.stored (i * 3 + 2) (.int .u64 x3)).1
  have r4 := (r3.stored (i * 3) (.int .u64 x1)).1
  have r5 := (r4.stored (i * 3 + 1) (.int .i64 x2)).1
  have r6 := (r5.stored (i * 3 + 2) (.int .u64 x3)).1
  have hs : Spares [g] w w := Spares.of_below (Below.refl _ _)
  rw [hid_elim hfl] at r6
  exact ⟨rfl, r6.drew, ((((((hs.set (by simp) _ _).set (by simp) _ _).set (by simp) _ _).set (by simp) _ _).set (by simp) _ _).set (by simp) _ _).drew⟩
theorem Tryz.qSwap (B vb g cap n : Nat) (xs : List TurnD) (i j : Nat) (w : World) (c8 : w.cell? ⟨vb, 8, none⟩ = some (.slice (some ⟨g, 0, none⟩) n cap)) (hrow : w.ownsRow B 144 3 (.slice (some ⟨g, 0, none⟩) n cap) n (flatQ xs)) (hi : i < xs.length) (hj : j < xs.length) :
    Calls Tryz.prog 132 #[.pointer (some ⟨vb, 8, none⟩), .int .i64 i, .int .i64 j] w fun e w' => e = .returned (.tuple #[]) ∧ w'.ownsRow B 144 3 (.slice (some ⟨g, 0, none⟩) n cap) n (flatQ (swapT xs i j)) ∧ Spares [g] w w' := by
  by_cases h : i = j
  · subst h
    rw [swapT_self hi]
    exact Tryz.qSwapEq B vb g cap n xs i w c8 hrow hi
  · exact Tryz.qSwapNe B vb g cap n xs i j w c8 hrow hi hj h
end Go.Proofs

/-
  The queue, with whatever is in it: cut, Empty.
-/
namespace Go.Proofs
open Go.RowKit Go.Sort

theorem flatQ_append (a b : List TurnD) : flatQ (a ++ b) = flatQ a ++ flatQ b := by simp [flatQ]
theorem flatQ_take (xs : List TurnD) (k : Nat) : flatQ (xs.take k) = (flatQ xs).take (k * 3) := by
  induction xs generalizing k with
  | nil => simp [flatQ]
  | cons x xs ih =>
    cases k with
    | zero => simp [flatQ]
    | succ k =>
      rw [List.take_succ_cons]
      show x.cells.toList ++ flatQ (xs.take k) = (x.cells.toList ++ flatQ xs).take ((k + 1) * 3)
      rw [ih, List.take_append, show x.cells.toList.length = 3 from rfl, show (k + 1) * 3 - 3 = k * 3 by omega, List.take_of_length_le (l := x.cells.toList) (by rw [show x.cells.toList.length = 3 from rfl]; omega)]

theorem cell_set_ne {w : World} {g o vb i : Nat} {v : Value} (h : vb ≠ g) : (w.setCell ⟨g, o, none⟩ v).cell? ⟨vb, i, none⟩ = w.cell? ⟨vb, i, none⟩ := World.cell?_of_block (set_other _ _ _ _ _ h)
/-- the last one goes. -/
theorem row_cut {w : World} {B g n cap : Nat} {e : TypeId} {ys zs : List Value} (h : w.ownsRow B e 3 (.slice (some ⟨g, 0, none⟩) (n + 1) cap) (n + 1) ys) (hz : zs = ys.take (n * 3)) : w.ownsRow B e 3 (.slice (some ⟨g, 0, none⟩) n cap) n zs := by
  obtain ⟨h1, ⟨e1, -⟩ | ⟨g', cap', cur, e1, e2, e3, e4, e5, e6, e7⟩⟩ := h
  · cases e1
  · cases e1
    refine ⟨by rw [hz, List.length_take]; omega, .inr ⟨g, cap, cur, rfl, e2, e3, by omega, e5, e6, ?_⟩⟩
    rw [hz, ← e7, List.take_take, show min (n * 3) ((n + 1) * 3) = n * 3 by omega]

set_option maxRecDepth 100000 in
set_option maxHeartbeats 2000000 in
theorem Tryz.qCut (B vb g cap n : Nat) (xs : List TurnD) (w : World) (c8 : w.cell? ⟨vb, 8, none⟩ = some (.slice (some ⟨g, 0, none⟩) (n + 1) cap)) (f8 : w.frozen? ⟨vb, 8, none⟩ = false) (hrow : w.ownsRow B 144 3 (.slice (some ⟨g, 0, none⟩) (n + 1) cap) (n + 1) (flatQ xs)) (hne : vb ≠ g) (hcap : n + 1 ≤ cap) (hmx : cap ≤ 9223372036854775807) :
    Calls Tryz.prog 129 #[.pointer (some ⟨vb, 8, none⟩), .int .i64 n] w fun e w' => e = .returned (.tuple #[]) ∧ ∃ w1, w1.ownsRow B 144 3 (.slice (some ⟨g, 0, none⟩) n cap) n (flatQ (xs.take n)) ∧ w.grownBy w1 (some g) ∧ w' = w1.setCell ⟨vb, 8, none⟩ (.slice (some ⟨g, 0, none⟩) n cap) := by
  have hn : n + 1 = xs.length := by have := hrow.1; rw [flatQ_length] at this; omega
  obtain ⟨t0, t1, t2⟩ := row_three hrow (getT_some (show n < xs.length by omega))
  have f0 := fun o => hrow.frozenAt o
  generalize getT xs n = t at *
  obtain ⟨x1, x2, x3⟩ := t
  simp only at t0 t1 t2
  have n4 : n * 3 + 1 ≠ n * 3 := by omega
  have n7 : n * 3 + 2 ≠ n * 3 := by omega
  have n8 : n * 3 + 2 ≠ n * 3 + 1 := by omega
  have hcl : (Builtin.clear_ #[122] 0 #[.slice (some ⟨g, n * 3, none⟩) 1 (cap - n)]).run Tryz.prog w = .ok (.tuple #[]) (((w.setCell ⟨g, n * 3, none⟩ (.int .u64 0)).setCell ⟨g, n * 3 + 1, none⟩ (.int .i64 0)).setCell ⟨g, n * 3 + 2, none⟩ (.int .u64 0)) := by
    have hz : (Builtin.zeroCells #[Value.int .u64 0, .int .i64 0, .int .u64 0] 1).toList = [.int .u64 0, .int .i64 0, .int .u64 0] := by kernel_rfl
    simp [Builtin.clear_, run_underlying Tryz.underlying122, Tryz.zeroValue144, hz, Value.cells, storeCells, go_sem, Addr.add, t0, t1, t2, f0]
  have HR := hid_intro hrow
  clear hrow
  have c8' : (((w.setCell ⟨g, n * 3, none⟩ (.int .u64 0)).setCell ⟨g, n * 3 + 1, none⟩ (.int .i64 0)).setCell ⟨g, n * 3 + 2, none⟩ (.int .u64 0)).cell? ⟨vb, 8, none⟩ = some (.slice (some ⟨g, 0, none⟩) (n + 1) cap) := by
    rw [cell_set_ne hne, cell_set_ne hne, cell_set_ne hne]; exact c8
  have f8' : (((w.setCell ⟨g, n * 3, none⟩ (.int .u64 0)).setCell ⟨g, n * 3 + 1, none⟩ (.int .i64 0)).setCell ⟨g, n * 3 + 2, none⟩ (.int .u64 0)).frozen? ⟨vb, 8, none⟩ = false := by
    rw [World.frozen?_setCell, World.frozen?_setCell, World.frozen?_setCell]; exact f8
  clear hn
  have i0 : (0 : Int) ≤ (n : Int) := by omega
  have i1 : (n : Int) ≤ (n : Int) + 1 := by omega
  have i2 : (n : Int) + 1 ≤ (cap : Int) := by omega
  have i3 : (n : Int) ≤ (cap : Int) := by omega
  go_enter Tryz.func129, Tryz.ntmps129
  go_wp2
  go_end0
  have hrow := hid_elim HR
  have r1 := hrow.stored (n * 3) (.int .u64 0)
  have r2 := r1.1.stored (n * 3 + 1) (.int .i64 0)
  have r3 := r2.1.stored (n * 3 + 2) (.int .u64 0)
  refine ⟨rfl, _, row_cut r3.1 ?_, ?_, rfl⟩
  · rw [flatQ_take]
    have hl := flatQ_length xs
    simp only [List.take_set]
    rw [List.set_eq_of_length_le (by simp [List.length_take]; omega), List.set_eq_of_length_le (by simp [List.length_take]; omega), List.set_eq_of_length_le (by simp [List.length_take]; omega)]
  · exact (r1.2.andThen r2.2 (fun j e => .inr e)).andThen r3.2 (fun j e => .inr e)

set_option maxHeartbeats 1000000 in
theorem Tryz.qCutNil (vb : Nat) (v : Value) (w : World) (hv : v = .slice none 0 0 ∨ ∃ g cap, v = .slice (some ⟨g, 0, none⟩) 0 cap) (c7 : w.cell? ⟨vb, 8, none⟩ = some v) (f7 : w.frozen? ⟨vb, 8, none⟩ = false) :
    Calls Tryz.prog 129 #[.pointer (some ⟨vb, 8, none⟩), .int .i64 0] w fun e w' => e = .returned (.tuple #[]) ∧ w' = w.setCell ⟨vb, 8, none⟩ v := by
  rcases hv with rfl | ⟨g, cap, rfl⟩
  · have hcl : (Builtin.clear_ #[122] 0 #[.slice none 0 0]).run Tryz.prog w = .ok (.tuple #[]) w := by simp [Builtin.clear_, run_underlying Tryz.underlying122, go_sem]
    go_enter Tryz.func129, Tryz.ntmps129
    go_wp2
    go_end0
    exact ⟨rfl, rfl⟩
  · have hcl : (Builtin.clear_ #[122] 0 #[.slice (some ⟨g, 0, none⟩) 0 cap]).run Tryz.prog w = .ok (.tuple #[]) w := by simp [Builtin.clear_, run_underlying Tryz.underlying122, go_sem]
    go_enter Tryz.func129, Tryz.ntmps129
    go_wp2
    go_end0
    exact ⟨rfl, rfl⟩
set_option maxHeartbeats 1000000 in
/-- Empty of what has nothing in it. -/
theorem Tryz.qEmptyNil (vb : Nat) (v : Value) (w : World) (hv : v = .slice none 0 0 ∨ ∃ g cap, v = .slice (some ⟨g, 0, none⟩) 0 cap) (c7 : w.cell? ⟨vb, 8, none⟩ = some v) (f7 : w.frozen? ⟨vb, 8, none⟩ = false) :
    Calls Tryz.prog 74 #[.pointer (some ⟨vb, 8, none⟩)] w fun e w' => e = .returned (.tuple #[]) ∧ w' = w.setCell ⟨vb, 8, none⟩ v := by
  go_enter Tryz.func74, Tryz.ntmps74
  go_wp2_with (go_at_call 129; refine (Tryz.qCutNil vb v _ hv c7 f7).mono ?_; rintro e w1 ⟨rfl, rfl⟩)
  go_end0
  exact ⟨rfl, rfl⟩
end Go.Proofs

/-
  The queue, with whatever is in it: Push.
-/
namespace Go.Proofs
open Go.RowKit Go.Sort Go.Lib Go.Shelf

/-- a scope with one label, walked from the label once. -/
theorem wp_scope_share {P : Program} {a : Act} {w : World} {Q : Exit → Act → World → Prop} {c rest : Code} (l : Nat) (J : Act → World → Prop) (μ : Act → World → Nat) (hf : findLabel c l = some (Code.skip.seq rest))
    (pass : ∀ a w, J a w → rest.wp P (Exit.jump l (fun a' w' => J a' w' ∧ μ a' w' < μ a w) Q) a w)
    (first : (∀ a w, J a w → rest.wp P (Exit.jump l J Q) a w) → c.wp P (Exit.jump l J Q) a w) : (Code.scope c).wp P Q a w :=
  wp_scope_jumps l J μ hf (first (fun a w h => wp_mono (pass a w h) (fun e a w hq => by
    cases e <;> first | exact hq | exact ⟨hq.1, hq.2.1⟩))) (fun a w h => wp_seq (wp_skip (pass a w h)))
theorem Tryz.turnInfo : (Tryz.prog.info? 144).map (fun i => (i.zero, i.size, i.bytes)) = some (some (.agg #[.int .u64 0, .int .i64 0, .int .u64 0]), 3, 24) := by kernel_rfl
theorem grown_set (w : World) (B i : Nat) (v : Value) : w.grownBy (w.setCell ⟨B, i, none⟩ v) (some B) := ⟨rfl, rfl, rfl, by simp, fun k _ hne => set_other _ _ _ _ _ (fun e => hne (by rw [e]))⟩
theorem Spares.set_new {bs : List Nat} {W W' : World} (h : Spares bs W W') {b : Nat} (hb : W.heap.size ≤ b) (i : Nat) (v : Value) : Spares bs W (W'.setCell ⟨b, i, none⟩ v) :=
  ⟨h.os, h.tape, h.output, by simpa using h.size, fun k hk hn => by rw [set_other _ _ _ _ _ (fun e => by omega)]; exact h.block k hk hn⟩
theorem Spares.of_grown' {bs : List Nat} {W W' : World} {row : Option Nat} (h : W.grownBy W' row) (hb : ∀ b, row = some b → b ∈ bs) : Spares bs W W' := ⟨h.os, h.tape, h.output, h.size, fun k hk hn => h.block k hk (fun e => hn (hb k e.symm))⟩

theorem Spares.thenG {bs : List Nat} {W W' W'' : World} {g : Nat} (h : Spares bs W W') (h' : Spares [g] W' W'') (hg : g ∈ bs ∨ W.heap.size ≤ g) : Spares bs W W'' :=
  ⟨h'.os.trans h.os, h'.tape.trans h.tape, h'.output.trans h.output, Nat.le_trans h.size h'.size, fun k hk hn => (h'.block k (Nat.lt_of_lt_of_le hk h.size) (fun e => by
    have e2 := List.mem_singleton.1 e
    subst e2
    rcases hg with hg | hg
    · exact hn hg
    · omega)).trans (h.block k hk hn)⟩
/-- a queue in a vault. -/
structure Tryz.QV (B vb : Nat) (cs : Array Value) (g cap : Nat) (ys : List TurnD) (W : World) : Prop where
  v : BoxN W vb 126 (cs.setIfInBounds 8 (.slice (some ⟨g, 0, none⟩) ys.length cap))
  row : W.ownsRow B 144 3 (.slice (some ⟨g, 0, none⟩) ys.length cap) ys.length (flatQ ys)
  h8 : 8 < cs.size
theorem Tryz.QV.ne {B vb : Nat} {cs : Array Value} {g cap : Nat} {ys : List TurnD} {W : World} (h : Tryz.QV B vb cs g cap ys W) : vb ≠ g := by
  obtain ⟨h1, ⟨e1, -⟩ | ⟨g', cap', cur, e1, e2, e3, -⟩⟩ := h.row
  · cases e1
  · cases e1
    exact h.v.ne (cs' := cur) e3 (by decide)
theorem Tryz.QV.cell {B vb : Nat} {cs : Array Value} {g cap : Nat} {ys : List TurnD} {W : World} (h : Tryz.QV B vb cs g cap ys W) : W.cell? ⟨vb, 8, none⟩ = some (.slice (some ⟨g, 0, none⟩) ys.length cap) :=
  h.v.cell 8 (by rw [Array.getElem?_setIfInBounds_self_of_lt h.h8])
theorem Tryz.QV.qp {B vb : Nat} {cs : Array Value} {g cap : Nat} {ys : List TurnD} {W : World} (h : Tryz.QV B vb cs g cap ys W) : Tryz.QP vb g cap ys W := ⟨h.cell, fun _ _ ht => row_three h.row ht⟩
theorem Tryz.QV.below {B vb : Nat} {cs : Array Value} {g cap : Nat} {ys : List TurnD} {W W' : World} (h : Tryz.QV B vb cs g cap ys W) (hb : Below W.heap.size W W') : Tryz.QV B vb cs g cap ys W' := ⟨h.v.below hb h.v.lt, ownsRow_below h.row hb, h.h8⟩
theorem Tryz.QV.swapped {B vb : Nat} {cs : Array Value} {g cap : Nat} {ys zs : List TurnD} {W W' : World} (h : Tryz.QV B vb cs g cap ys W) (hs : Spares [g] W W') (hl : zs.length = ys.length) (hr : W'.ownsRow B 144 3 (.slice (some ⟨g, 0, none⟩) ys.length cap) ys.length (flatQ zs)) : Tryz.QV B vb cs g cap zs W' := by
  refine ⟨?_, ?_, h.h8⟩
  · rw [hl]; exact hs.box h.v (by simpa using h.ne)
  · rw [hl]; exact hr
theorem oneI (W : World) (t : TypeId) (p : Nat) : ∀ j q : Nat, [p][j]? = some q → (W.alloc (.cells #[.int .i64 (p : Int)] t)).cell? ⟨W.heap.size, j, none⟩ = some (.int .i64 (q : Int)) := fun j q hq => by
  cases j with
  | succ j => simp at hq
  | zero =>
    obtain rfl : p = q := by simpa using hq
    exact (BoxN.new W t #[.int .i64 (p : Int)]).cell 0 rfl
/-- what holds at the label of Push. -/
def Tryz.RiseJ (B vb : Nat) (cs : Array Value) (w : World) (bs : List Nat) (x1 x2 x3 : Int) (zs : List TurnD) (gq : Nat → Prop) (act : Act) (W : World) : Prop :=
  ∃ (a g cap : Nat) (ys : List TurnD) (u5 u6 u7 u8 u9 u10 u11 u12 u13 u14 u15 u16 u17 u18 u19 u20 u21 u22 u23 u24 u25 u26 u27 u28 u29 u30 u31 u32 u33 u34 u35 u36 : Value), act = { tmps := #[.pointer (some ⟨vb, 8, none⟩), .agg #[.int .u64 x1, .int .i64 x2, .int .u64 x3], undef, .pointer (some ⟨w.heap.size, 0, none⟩), .int .i64 (a : Int), u5, u6, u7, u8, u9, u10, u11, u12, u13, u14, u15, u16, u17, u18, u19, u20, u21, u22, u23, u24, u25, u26, u27, u28, u29, u30, u31, u32, u33, u34, u35, u36], defers := [] } ∧ RiseH ys a ∧ ys.Perm zs ∧ Tryz.QV B vb cs g cap ys W ∧ gq g ∧ Spares bs w W

set_option maxRecDepth 100000 in
set_option maxHeartbeats 4000000 in
theorem Tryz.qPush (B vb : Nat) (v : Value) (n : Nat) (xs : List TurnD) (cs : Array Value) (t : TurnD) (w : World) (hV : BoxN w vb 126 cs) (h8 : cs[8]? = some v) (hrow : w.ownsRow B 144 3 v n (flatQ xs)) (hH : Heap xs) (hB : B ≤ w.heap.size) (hn : n ≤ 100) :
    Calls Tryz.prog 131 #[.pointer (some ⟨vb, 8, none⟩), .agg t.cells] w fun e w' => e = .returned (.tuple #[]) ∧ ∃ g cap ys, Tryz.QV B vb cs g cap ys w' ∧ Heap ys ∧ ys.Perm (xs ++ [t]) ∧ (v.ownBlock = some g ∨ w.heap.size ≤ g) ∧ Spares (vb :: v.ownBlock.toList) w w' := by
  obtain ⟨i0, hi, hz0, hz1, hz2⟩ := info_parts Tryz.turnInfo
  have hnx : n = xs.length := by have := hrow.1; rw [flatQ_length] at this; omega
  have Hnx := hid_intro hnx
  have h8s : 8 < cs.size := (Array.getElem?_eq_some_iff.1 h8).1
  have hnr := hV.not_row (e := 144) (by decide) hrow
  obtain ⟨x1, x2, x3⟩ := t
  simp only [TurnD.cells]
  have bV := hV.alloc (.cells #[.int .u64 x1, .int .i64 x2, .int .u64 x3] 144)
  have bT := BoxN.new w 144 #[.int .u64 x1, .int .i64 x2, .int .u64 x3]
  have hr := hrow.alloc (.cells #[.int .u64 x1, .int .i64 x2, .int .u64 x3] 144)
  have hs9 : (w.alloc (.cells #[.int .u64 x1, .int .i64 x2, .int .u64 x3] 144)).heap.size = w.heap.size + 1 := by simp
  have hP9 : Spares (vb :: v.ownBlock.toList) w (w.alloc (.cells #[.int .u64 x1, .int .i64 x2, .int .u64 x3] 144)) := (Spares.of_below (Below.refl _ w)).alloc _
  have lv := hV.lt
  clear hnx
  go_enter Tryz.func131, Tryz.ntmps131
  go_wp2_with fail
  refine wp_scope_share 0 (Tryz.RiseJ B vb cs w (vb :: v.ownBlock.toList) x1 x2 x3 (xs ++ [⟨x1, x2, x3⟩]) (fun g => v.ownBlock = some g ∨ w.heap.size ≤ g)) (fun a _ => (intOf (a.tmps.getD 4 undef)).toNat) rfl ?pass ?first
  case pass =>
    rintro _ W ⟨a, g, cap, ys, u5, u6, u7, u8, u9, u10, u11, u12, u13, u14, u15, u16, u17, u18, u19, u20, u21, u22, u23, u24, u25, u26, u27, u28, u29, u30, u31, u32, u33, u34, u35, u36, rfl, hR, hp, hq, hg, hS⟩
    have hlen : ys.length ≤ 101 := by have := hp.length_eq; have := hid_elim Hnx; simp at *; omega
    have hal := hR.lt
    have hpal : par a < ys.length := by unfold par; omega
    have hB2 : Below W.heap.size W (W.alloc (.cells #[.int .i64 (a : Int)] 3)) := (Below.refl _ W).alloc (Nat.le_refl _) _
    have hL := Tryz.qLeast vb g cap W.heap.size ys (par a) [a] _ (hq.qp.below hB2) (oneI W 3 a) (.inl hpal) (by simp) (by simp; omega)
    have hle : leastT ys (par a) [a] = if ltT (getT ys a) (getT ys (par a)) then a else par a := by
      simp only [leastT]
      by_cases c : ltT (getT ys a) (getT ys (par a))
      · rw [if_pos ⟨hal, c⟩, if_pos c]
      · rw [if_neg (fun h => c h.2), if_neg c]
    rw [hle] at hL
    have ha3 : (a : Int) ≤ 3000 := by omega
    have ha0 : (0 : Int) ≤ (a : Int) := by omega
    by_cases hc : ltT (getT ys a) (getT ys (par a))
    · have hapos : 0 < a := by
        rcases Nat.eq_zero_or_pos a with h0 | h0
        · subst h0; exact absurd hc (ltT_irr _)
        · exact h0
      have hst := hR.step hapos hc
      have hpm := (swapT_perm hpal hal).trans hp
      have hSw := fun W' (hb : Below W.heap.size W W') => Tryz.qSwap B vb g cap ys.length ys (par a) a W' (hq.below hb).cell (hq.below hb).row hpal hal
      have hltp : par a < a := by unfold par; omega
      have e1 : ((a : Int) - 1) / 2 = ((par a : Nat) : Int) := by unfold par; omega
      rw [if_pos hc] at hL
      have hap : (0 : Int) ≤ (a : Int) - 1 := by omega
      generalize par a = p at *
      have hnq : ((a : Int) != (p : Int)) = true := by simp; omega
      have Hlt := hid_intro hltp
      have HR := hid_intro hst
      clear hR hle hal hpal hc hlen hst hltp
      go_wp2_with (go_at_call 133; refine hL.mono ?_; rintro e w2 ⟨rfl, hb2⟩; have hb3 := hB2.trans (hb2.mono (by simp)); have hSw2 := hSw w2 hb3)
      go_wp2_with (go_at_call 132; refine hSw2.mono ?_; rintro e w4 ⟨rfl, hr4, hs4⟩)
      go_step3
      refine ⟨rfl, ⟨p, g, cap, swapT ys p a, _, _, _, _, _, _, _, _, _, _, _, _, _, _, _, _, _, _, _, _, _, _, _, _, _, _, _, _, _, _, _, _, rfl, hid_elim HR, hpm, (hq.below hb3).swapped hs4 (swapT_len _ _ _) hr4, hg, (hS.trans (Spares.of_below hb3)).thenG hs4 ?_⟩, ?_⟩
      · rcases hg with hg | hg
        · exact .inl (by simp [hg])
        · exact .inr hg
      · have := hid_elim Hlt
        simp [intOf]
        omega
    · have hdn := hR.done hc
      rw [if_neg hc] at hL
      have e1 : ((a : Int) - 1).tdiv 2 = ((par a : Nat) : Int) := by
        unfold par
        by_cases h0 : a = 0
        · subst h0; rfl
        · rw [Int.tdiv_eq_ediv_of_nonneg (by omega)]; omega
      have e2 : 0 < a → ((a : Int) - 1) / 2 = ((par a : Nat) : Int) := fun h0 => by unfold par; omega
      generalize par a = p at *
      clear hR hle hal hpal hc hlen
      by_cases h0 : a = 0
      · subst h0
        have e3 : p = 0 := by
          have := e1
          simp at this
          omega
        subst e3
        clear e1 e2
        go_wp2_with (go_at_call 133; refine hL.mono ?_; rintro e w2 ⟨rfl, hb2⟩)
        have hb3 := hB2.trans (hb2.mono (by simp))
        simp only [Exit.jump]
        go_end0
        exact ⟨rfl, g, cap, ys, hq.below hb3, hdn, hp, hg, hS.trans (Spares.of_below hb3)⟩
      · have e3 := e2 (by omega)
        have hap : (0 : Int) ≤ (a : Int) - 1 := by omega
        clear e1 e2 h0
        go_wp2_with (go_at_call 133; refine hL.mono ?_; rintro e w2 ⟨rfl, hb2⟩)
        have hb3 := hB2.trans (hb2.mono (by simp))
        simp only [Exit.jump]
        go_end0
        exact ⟨rfl, g, cap, ys, hq.below hb3, hdn, hp, hg, hS.trans (Spares.of_below hb3)⟩
  case first =>
    intro hpass
    have HP := hid_intro hpass
    clear hpass
    go_wp2_with fail
    obtain ⟨W9, hW9⟩ : ∃ W9, w.alloc (.cells #[.int .u64 x1, .int .i64 x2, .int .u64 x3] 144) = W9 := ⟨_, rfl⟩
    rw [hW9] at bV hr bT hs9 hP9
    rw [hW9]
    clear hW9
    have Hs9 := hid_intro hs9
    have hB9s : B ≤ W9.heap.size := by omega
    clear hs9
    have v7 := bV.cell 8 h8
    have fv7 := bV.frozen 8
    have v7a := (bV.alloc (.cells #[.int .u64 x1, .int .i64 x2, .int .u64 x3] 144)).cell 8 h8
    have y0 := bT.cell 0 (v := .int .u64 x1) rfl
    have y1 := bT.cell 1 (v := .int .i64 x2) rfl
    have y2 := bT.cell 2 (v := .int .u64 x3) rfl
    go_region_law ((refine step_append_lies _ (by rfl) _ _ _ (by rfl) B 144 i0 _ 3 24 Tryz.underlying122 hi hz0 hz1 hz2 rfl (by decide) v n (flatQ xs) (by rfl) (ownsRow_below hr (by first | exact Grew.below ((Grew.refl _).alloc _) | exact Grew.below (((Grew.refl _).drewN _).alloc _))) ⟨W9.heap.size, 0, none⟩ 1 1 [.int .u64 x1, .int .i64 x2, .int .u64 x3] (by rfl) rfl (World.news_of_block (heap_alloc_new _ _)) (by simp [Value.oneCell']) (by omega) (by unfold maxLen; omega) (by omega) (by simp; omega) _ rfl ?_; intro g' cap' w3 hown' hgrow hat hlt; have bV3 := (bV.below (B := vb) (n₀ := W9.heap.size) (by first | exact Grew.below ((Grew.refl W9).alloc _) | exact Grew.below (((Grew.refl W9).drew).alloc _)) bV.lt).kept hgrow hnr; have d0 := bV3.cell 8 h8; have d1 := bV3.frozen 8))
    all_goals
      have hvg : vb ≠ g' := by
        rcases hat with e | e
        · exact fun e' => hnr (by rw [e, e'])
        · have := hid_elim Hs9
          have e2 : g' = W9.heap.size + 1 := by simpa using e
          omega
      have hwg : v.ownBlock = some g' ∨ w.heap.size ≤ g' := by
        rcases hat with e | e
        · exact .inl e
        · have := hid_elim Hs9
          have e2 : g' = W9.heap.size + 1 := by simpa using e
          exact .inr (by omega)
      have hlq : (xs ++ [(⟨x1, x2, x3⟩ : TurnD)]).length = n + 1 := by simp [hid_elim Hnx]
      have hown1 : w3.ownsRow B 144 3 (.slice (some ⟨g', 0, none⟩) (n + 1) cap') (n + 1) (flatQ (xs ++ [⟨x1, x2, x3⟩])) := by rw [flatQ_append]; exact hown'
      have hrow4 := hown1.kept (grown_set w3 vb 8 (.slice (some ⟨g', 0, none⟩) (n + 1) cap')) (.inr (by simp [Value.ownBlock]; exact fun e => hvg e.symm))
      have bV4 := bV3.set 8 (.slice (some ⟨g', 0, none⟩) (n + 1) cap')
      have hP4 : Spares (vb :: v.ownBlock.toList) w (w3.setCell ⟨vb, 8, none⟩ (.slice (some ⟨g', 0, none⟩) (n + 1) cap')) := (((hP9.alloc _).drew).trans (Spares.of_grown' hgrow (fun b hb => by rw [hb]; simp))).set (by simp) _ _
      have hqv : Tryz.QV B vb cs g' cap' (xs ++ [⟨x1, x2, x3⟩]) (w3.setCell ⟨vb, 8, none⟩ (.slice (some ⟨g', 0, none⟩) (n + 1) cap')) := ⟨by rw [hlq]; exact bV4, by rw [hlq]; exact hrow4, h8s⟩
      have c8 := hqv.cell
      rw [hlq] at c8
      have HF := hid_intro (And.intro hqv (And.intro hwg (And.intro hP4 (And.intro (RiseH.start hH ⟨x1, x2, x3⟩) (hid_elim Hnx)))))
      clear hown' hgrow hat hlt bV3 d0 d1 hP4 hP9 bV hr bT v7 fv7 v7a y0 y1 y2 hown1 hwg hnr hqv bV4 hrow4 hlq
      generalize w3.setCell ⟨vb, 8, none⟩ (.slice (some ⟨g', 0, none⟩) (n + 1) cap') = W4 at *
      go_wp2
      go_step3
      simp only [Exit.then]
      apply_assumption
      obtain ⟨f1, f2, f3, f4, f5⟩ := hid_elim HF
      rw [← f5] at f4
      exact hid_elim HP _ _ ⟨n, g', cap', _, _, _, _, _, _, _, _, _, _, _, _, _, _, _, _, _, _, _, _, _, _, _, _, _, _, _, _, _, _, _, _, _, rfl, f4, List.Perm.refl _, f1, f2, f3⟩
end Go.Proofs
