import Derived.Test.YthifclklnopkfaaGreatDoorRefF
import Derived.Test.YthifclklnopkfaaGreatDoorSpare
/-
  The document's answer: Renew.
-/
namespace Go.Proofs
open Go.RowKit Go.Sort Go.Lib Go.Shelf

theorem flatT_set : ∀ (L : List ThingD) (i : Nat) (t : ThingD) (a : Int), L[i]? = some t → flatT (L.set i { t with at_ := a }) = (flatT L).set (i * 8 + 4) (.int .u64 a)
  | [], _, _, _, h => by simp at h
  | x :: xs, 0, t, a, h => by
    obtain rfl : x = t := by simpa using h
    show ({ x with at_ := a } : ThingD).cells.toList ++ flatT xs = (x.cells.toList ++ flatT xs).set (0 * 8 + 4) _
    rw [List.set_append_left _ _ (by rw [ThingD.cells_size]; omega)]
    rfl
  | x :: xs, i + 1, t, a, h => by
    show x.cells.toList ++ flatT (xs.set i { t with at_ := a }) = (x.cells.toList ++ flatT xs).set ((i + 1) * 8 + 4) _
    rw [List.set_append_right _ _ (by rw [ThingD.cells_size]; omega), ThingD.cells_size, show (i + 1) * 8 + 4 - 8 = i * 8 + 4 by omega, flatT_set xs i t a (by simpa using h)]

theorem Tryz.RVAt.setAt {B : Nat} {W : World} {vb g cap : Nat} {L : List ThingD} {tm tn ln : Int} (h : Tryz.RVAt B W vb g cap L tm tn ln) (hne : vb ≠ g) {i : Nat} {t : ThingD} (hi : L[i]? = some t) (a : Int) :
    Tryz.RVAt B (W.setCell ⟨g, i * 8 + 4, none⟩ (.int .u64 a)) vb g cap (L.set i { t with at_ := a }) tm tn ln := by
  have hlen : (L.set i { t with at_ := a }).length = L.length := List.length_set ..
  have hmem : ∀ x ∈ L.set i { t with at_ := a }, x ∈ L ∨ x = { t with at_ := a } := fun x hx => List.mem_or_eq_of_mem_set hx
  have htm : t ∈ L := List.mem_of_getElem? hi
  refine ⟨?_, ?_, ?_, ?_, ?_⟩
  · rw [hlen]; exact h.v.other hne _ _
  · rw [hlen]
    obtain ⟨h1, ⟨e1, -⟩ | ⟨g', cap', cur, e1, e2, e3, e4, e5, e6, e7⟩⟩ := h.row
    · cases e1
    · cases e1
      refine ⟨by rw [flatT_length, hlen], .inr ⟨g, cap, cur.setIfInBounds (i * 8 + 4) (.int .u64 a), rfl, e2, ?_, e4, e5, by simpa using e6, ?_⟩⟩
      · exact BoxN.set (W := W) (t := 82) (cs := cur) e3 (i * 8 + 4) (.int .u64 a)
      · rw [Array.toList_setIfInBounds, List.take_set, e7, flatT_set L i t a hi]
  · rw [hlen]; exact h.lim
  · intro x hx; rcases hmem x hx with hx | rfl
    · exact h.num x hx
    · exact h.num t htm
  · intro x hx; rcases hmem x hx with hx | rfl
    · exact h.ofs x hx
    · exact h.ofs t htm

def renewAt (tm ttl : Int) (t : ThingD) : Int := max t.at_ (min (plusI tm ttl) t.last)
theorem set_same {α : Type} {L : List α} {i : Nat} {t : α} (h : L[i]? = some t) : L.set i t = L := by
  obtain ⟨hlt, he⟩ := List.getElem?_eq_some_iff.1 h
  rw [← he]; exact List.set_getElem_self hlt
theorem Tryz.RVAt.frozenG {B : Nat} {W : World} {vb g cap : Nat} {L : List ThingD} {tm tn ln : Int} (h : Tryz.RVAt B W vb g cap L tm tn ln) (j : Nat) : W.frozen? ⟨g, j, none⟩ = false := by
  obtain ⟨h1, ⟨e1, -⟩ | ⟨g', cap', cur, e1, e2, e3, -⟩⟩ := h.row
  · cases e1
  · cases e1
    exact BoxN.frozen (W := W) (t := 82) (cs := cur) e3 j

set_option maxRecDepth 100000 in
set_option maxHeartbeats 4000000 in
theorem Tryz.rRenew_hit (B : Nat) (vb g cap : Nat) (L : List ThingD) (tm tn ln : Int) (id : List UInt8) (ttl : Int) (w : World) (h : Tryz.RVAt B w vb g cap L tm tn ln) (hB : B ≤ w.heap.size) (hne : vb ≠ g) (htm : 0 ≤ tm) (h0 : 0 ≤ ttl) (h1 : ttl ≤ 18446744073709551615)
    (i : Nat) (t : ThingD) (ht : L[i]? = some t) (hli : liveI tm id false L = i) :
    Calls Tryz.prog 71 #[.pointer (some ⟨vb, 0, none⟩), .string ⟨id.toArray⟩, .int .u64 ttl] w fun e w' => e = .returned (.tuple #[.int .u64 (renewAt tm ttl t), .int .i64 0]) ∧ Tryz.RVAt B w' vb g cap (L.set i { t with at_ := renewAt tm ttl t }) tm tn ln ∧ Below B w w' ∧ Spares [vb, g] w w' := by
  have hL := Tryz.rLive B vb g cap L tm tn ln id false w h
  rw [hli] at hL
  have hP := fun W => Tryz.rPlus tm ttl htm h0 h1 W
  have hlim := h.lim
  have hil : i < L.length := (List.getElem?_eq_some_iff.1 ht).1
  have hgB : B ≤ g := (h.row.lt g rfl).1
  have hc := fun W (hb : Below w.heap.size w W) => (h.below hb).cells ht
  have hv := fun W (hb : Below w.heap.size w W) => (h.below hb).v.cell 0 (v := .slice (some ⟨g, 0, none⟩) L.length cap) rfl
  have hv1 := fun W (hb : Below w.heap.size w W) => (h.below hb).v.cell 1 (v := .int .u64 tm) rfl
  have hfz := fun W (hb : Below w.heap.size w W) => (h.below hb).frozenG (i * 8 + 4)
  have hset := hid_intro (fun W (hb : Below w.heap.size w W) => (h.below hb).setAt hne ht (renewAt tm ttl t))
  have hsame := hid_intro (fun W (hb : Below w.heap.size w W) (e : renewAt tm ttl t = t.at_) => (show Tryz.RVAt B W vb g cap (L.set i { t with at_ := renewAt tm ttl t }) tm tn ln from by rw [e, set_same (show L[i]? = some { t with at_ := t.at_ } from ht)]; exact h.below hb))
  have hr : Hid (renewAt tm ttl t = max t.at_ (min (plusI tm ttl) t.last)) := hid_intro rfl
  generalize hra : renewAt tm ttl t = ra at *
  clear hra
  generalize plusI tm ttl = p at *
  obtain ⟨len, hlen⟩ : ∃ len, L.length = len := ⟨_, rfl⟩
  rw [hlen] at hil hlim
  simp only [hlen] at hv
  clear hlen
  have hnn : ¬ (i : Int) < 0 := by omega
  by_cases hpl : t.last < p <;> by_cases hat : t.at_ < (min p t.last)
  · have hat' : t.at_ < t.last := by omega
    obtain rfl : ra = t.last := by have := hid_elim hr; omega
    clear hr hat
    go_enter Tryz.func71, Tryz.ntmps71
    go_wp2_with (first
      | (go_at_call 112; refine hL.mono ?_; rintro e w1 ⟨rfl, hb1⟩; obtain ⟨x0, x1, x2, x3, x4, x5, x6, x7⟩ := hc w1 hb1; have v0 := hv w1 hb1; have v1 := hv1 w1 hb1; have fz := hfz w1 hb1)
      | (go_at_call 110; refine (hP _).mono ?_; rintro e w2 ⟨rfl, rfl⟩))
    exact bodyPost_ret (v := .tuple #[.int .u64 t.last, .int .i64 0]) (by simp [results, Tryz.results71, go_sem]) rfl ⟨rfl, hid_elim hset _ hb1, (hb1.mono hB).setCell (p := ⟨g, i * 8 + 4, none⟩) hgB _, (Spares.of_below hb1).set (by simp) _ _⟩
  · have hat' : ¬ t.at_ < t.last := by omega
    obtain rfl : ra = t.at_ := by have := hid_elim hr; omega
    clear hr hat
    go_enter Tryz.func71, Tryz.ntmps71
    go_wp2_with (first
      | (go_at_call 112; refine hL.mono ?_; rintro e w1 ⟨rfl, hb1⟩; obtain ⟨x0, x1, x2, x3, x4, x5, x6, x7⟩ := hc w1 hb1; have v0 := hv w1 hb1; have v1 := hv1 w1 hb1; have fz := hfz w1 hb1)
      | (go_at_call 110; refine (hP _).mono ?_; rintro e w2 ⟨rfl, rfl⟩))
    exact bodyPost_ret (v := .tuple #[.int .u64 t.at_, .int .i64 0]) (by simp [results, Tryz.results71, go_sem]) rfl ⟨rfl, hid_elim hsame _ hb1 (by first | rfl | trivial), hb1.mono hB, Spares.of_below hb1⟩
  · have hat' : t.at_ < p := by omega
    obtain rfl : ra = p := by have := hid_elim hr; omega
    clear hr hat
    go_enter Tryz.func71, Tryz.ntmps71
    go_wp2_with (first
      | (go_at_call 112; refine hL.mono ?_; rintro e w1 ⟨rfl, hb1⟩; obtain ⟨x0, x1, x2, x3, x4, x5, x6, x7⟩ := hc w1 hb1; have v0 := hv w1 hb1; have v1 := hv1 w1 hb1; have fz := hfz w1 hb1)
      | (go_at_call 110; refine (hP _).mono ?_; rintro e w2 ⟨rfl, rfl⟩))
    exact bodyPost_ret (v := .tuple #[.int .u64 ra, .int .i64 0]) (by simp [results, Tryz.results71, go_sem]) rfl ⟨rfl, hid_elim hset _ hb1, (hb1.mono hB).setCell (p := ⟨g, i * 8 + 4, none⟩) hgB _, (Spares.of_below hb1).set (by simp) _ _⟩
  · have hat' : ¬ t.at_ < p := by omega
    obtain rfl : ra = t.at_ := by have := hid_elim hr; omega
    clear hr hat
    go_enter Tryz.func71, Tryz.ntmps71
    go_wp2_with (first
      | (go_at_call 112; refine hL.mono ?_; rintro e w1 ⟨rfl, hb1⟩; obtain ⟨x0, x1, x2, x3, x4, x5, x6, x7⟩ := hc w1 hb1; have v0 := hv w1 hb1; have v1 := hv1 w1 hb1; have fz := hfz w1 hb1)
      | (go_at_call 110; refine (hP _).mono ?_; rintro e w2 ⟨rfl, rfl⟩))
    exact bodyPost_ret (v := .tuple #[.int .u64 t.at_, .int .i64 0]) (by simp [results, Tryz.results71, go_sem]) rfl ⟨rfl, hid_elim hsame _ hb1 (by first | rfl | trivial), hb1.mono hB, Spares.of_below hb1⟩

set_option maxHeartbeats 1000000 in
theorem Tryz.rRenew_miss (B : Nat) (vb g cap : Nat) (L : List ThingD) (tm tn ln : Int) (id : List UInt8) (ttl : Int) (w : World) (h : Tryz.RVAt B w vb g cap L tm tn ln) (hli : liveI tm id false L = -1) :
    Calls Tryz.prog 71 #[.pointer (some ⟨vb, 0, none⟩), .string ⟨id.toArray⟩, .int .u64 ttl] w fun e w' => e = .returned (.tuple #[.int .u64 0, .int .i64 5]) ∧ Below w.heap.size w w' := by
  have hL := Tryz.rLive B vb g cap L tm tn ln id false w h
  rw [hli] at hL
  go_enter Tryz.func71, Tryz.ntmps71
  go_wp2_with (go_at_call 112; refine hL.mono ?_; rintro e w1 ⟨rfl, hb1⟩)
  exact bodyPost_ret (v := .tuple #[.int .u64 0, .int .i64 5]) (by simp [results, Tryz.results71, go_sem]) rfl ⟨rfl, hb1⟩
end Go.Proofs

/-
  The document's answer: CreateToken and Issue where they say an error ahead of what they make.
-/
namespace Go.Proofs
open Go.RowKit Go.Sort Go.Lib Go.Shelf

set_option maxHeartbeats 1000000 in
theorem Tryz.rCreate_miss (B : Nat) (vb g cap : Nat) (L : List ThingD) (tm tn ln : Int) (id : List UInt8) (w : World) (h : Tryz.RVAt B w vb g cap L tm tn ln) (hli : liveI tm id true L = -1) :
    Calls Tryz.prog 68 #[.pointer (some ⟨vb, 0, none⟩), .string ⟨id.toArray⟩] w fun e w' => e = .returned (.tuple #[.string ⟨#[]⟩, .int .i64 1]) ∧ Below w.heap.size w w' := by
  have hL := Tryz.rLive B vb g cap L tm tn ln id true w h
  rw [hli] at hL
  go_enter Tryz.func68, Tryz.ntmps68
  go_wp2_with (go_at_call 112; refine hL.mono ?_; rintro e w1 ⟨rfl, hb1⟩)
  exact bodyPost_ret (v := .tuple #[.string ⟨#[]⟩, .int .i64 1]) (by simp [results, Tryz.results68, go_sem]) rfl ⟨rfl, hb1⟩

set_option maxHeartbeats 1000000 in
theorem Tryz.rCreate_many (B : Nat) (vb g cap : Nat) (L : List ThingD) (tm tn ln : Int) (id : List UInt8) (w : World) (h : Tryz.RVAt B w vb g cap L tm tn ln) (i : Nat) (hli : liveI tm id true L = i) (hc : countI true L = 10) :
    Calls Tryz.prog 68 #[.pointer (some ⟨vb, 0, none⟩), .string ⟨id.toArray⟩] w fun e w' => e = .returned (.tuple #[.string ⟨#[]⟩, .int .i64 4]) ∧ Below w.heap.size w w' := by
  have hL := Tryz.rLive B vb g cap L tm tn ln id true w h
  rw [hli] at hL
  have hC := fun W (hb : Below w.heap.size w W) => Tryz.rCount B vb g cap L tm tn ln true W (h.below hb)
  rw [hc] at hC
  have hnn : ¬ (i : Int) < 0 := by omega
  go_enter Tryz.func68, Tryz.ntmps68
  go_wp2_with (first
    | (go_at_call 112; refine hL.mono ?_; rintro e w1 ⟨rfl, hb1⟩)
    | (go_at_call 113; refine (hC _ hb1).mono ?_; rintro e w2 ⟨rfl, rfl⟩))
  exact bodyPost_ret (v := .tuple #[.string ⟨#[]⟩, .int .i64 4]) (by simp [results, Tryz.results68, go_sem]) rfl ⟨rfl, hb1⟩

/-- the number of the error that Issue says ahead of what it makes; 0: none. -/
def issueE (tm : Int) (id pth : List UInt8) (ttl most : Int) (L : List ThingD) : Int :=
  if liveI tm id true L < 0 then 1 else if pathI pth = false then 2 else if ttl = 0 ∨ most < ttl then 3 else if countI false L = 14 then 4 else 0

set_option maxRecDepth 100000 in
set_option maxHeartbeats 2000000 in
theorem Tryz.rIssue_err (B : Nat) (vb g cap : Nat) (L : List ThingD) (tm tn ln : Int) (id pth : List UInt8) (ttl most : Int) (w : World) (h : Tryz.RVAt B w vb g cap L tm tn ln) (hp : pth.length ≤ 9223372036854775807) (he : issueE tm id pth ttl most L ≠ 0) :
    Calls Tryz.prog 70 #[.pointer (some ⟨vb, 0, none⟩), .string ⟨id.toArray⟩, .string ⟨pth.toArray⟩, .int .u64 ttl, .int .u64 most] w fun e w' => e = .returned (.tuple #[.string ⟨#[]⟩, .int .i64 (issueE tm id pth ttl most L)]) ∧ Below w.heap.size w w' := by
  have hL := Tryz.rLive B vb g cap L tm tn ln id true w h
  have hC := fun W (hb : Below w.heap.size w W) => Tryz.rCount B vb g cap L tm tn ln false W (h.below hb)
  have hP := fun W => Tryz.rPathed pth hp W
  have hr : Hid (issueE tm id pth ttl most L = if liveI tm id true L < 0 then 1 else if pathI pth = false then 2 else if ttl = 0 ∨ most < ttl then 3 else if countI false L = 14 then 4 else 0) := hid_intro rfl
  generalize issueE tm id pth ttl most L = r at *
  generalize liveI tm id true L = i at *
  generalize pathI pth = pb at *
  generalize countI false L = n at *
  by_cases h1 : i < 0
  · obtain rfl : r = 1 := by rw [hid_elim hr, if_pos h1]
    clear hr he
    go_enter Tryz.func70, Tryz.ntmps70
    go_wp2_with (first
      | (go_at_call 112; refine hL.mono ?_; rintro e w1 ⟨rfl, hb1⟩)
      | (go_at_call 114; refine (hP _).mono ?_; rintro e w2 ⟨rfl, rfl⟩)
      | (go_at_call 113; refine (hC _ hb1).mono ?_; rintro e w3 ⟨rfl, rfl⟩))
    exact bodyPost_ret (v := .tuple #[.string ⟨#[]⟩, .int .i64 1]) (by simp [results, Tryz.results70, go_sem]) rfl ⟨rfl, hb1⟩
  · by_cases h2 : pb = false
    · obtain rfl : r = 2 := by rw [hid_elim hr, if_neg h1, if_pos h2]
      subst h2
      clear hr he
      go_enter Tryz.func70, Tryz.ntmps70
      go_wp2_with (first
        | (go_at_call 112; refine hL.mono ?_; rintro e w1 ⟨rfl, hb1⟩)
        | (go_at_call 114; refine (hP _).mono ?_; rintro e w2 ⟨rfl, rfl⟩)
        | (go_at_call 113; refine (hC _ hb1).mono ?_; rintro e w3 ⟨rfl, rfl⟩))
      exact bodyPost_ret (v := .tuple #[.string ⟨#[]⟩, .int .i64 2]) (by simp [results, Tryz.results70, go_sem]) rfl ⟨rfl, hb1⟩
    · obtain rfl : pb = true := by simpa using h2
      by_cases h3 : ttl = 0 ∨ most < ttl
      · obtain rfl : r = 3 := by rw [hid_elim hr, if_neg h1, if_neg h2, if_pos h3]
        clear hr he h2
        by_cases h0 : ttl = 0
        · subst h0
          clear h3
          go_enter Tryz.func70, Tryz.ntmps70
          go_wp2_with (first
            | (go_at_call 112; refine hL.mono ?_; rintro e w1 ⟨rfl, hb1⟩)
            | (go_at_call 114; refine (hP _).mono ?_; rintro e w2 ⟨rfl, rfl⟩)
            | (go_at_call 113; refine (hC _ hb1).mono ?_; rintro e w3 ⟨rfl, rfl⟩))
          exact bodyPost_ret (v := .tuple #[.string ⟨#[]⟩, .int .i64 3]) (by simp [results, Tryz.results70, go_sem]) rfl ⟨rfl, hb1⟩
        · have h0' : (ttl == 0) = false := by simpa using h0
          have h3' : most < ttl := h3.resolve_left h0
          clear h3 h0
          go_enter Tryz.func70, Tryz.ntmps70
          go_wp2_with (first
            | (go_at_call 112; refine hL.mono ?_; rintro e w1 ⟨rfl, hb1⟩)
            | (go_at_call 114; refine (hP _).mono ?_; rintro e w2 ⟨rfl, rfl⟩)
            | (go_at_call 113; refine (hC _ hb1).mono ?_; rintro e w3 ⟨rfl, rfl⟩))
          exact bodyPost_ret (v := .tuple #[.string ⟨#[]⟩, .int .i64 3]) (by simp [results, Tryz.results70, go_sem]) rfl ⟨rfl, hb1⟩
      · by_cases h4 : n = 14
        · obtain rfl : r = 4 := by rw [hid_elim hr, if_neg h1, if_neg h2, if_neg h3, if_pos h4]
          subst h4
          have h0' : (ttl == 0) = false := by simp; omega
          have h3' : ¬ most < ttl := by omega
          clear hr he h2 h3
          go_enter Tryz.func70, Tryz.ntmps70
          go_wp2_with (first
            | (go_at_call 112; refine hL.mono ?_; rintro e w1 ⟨rfl, hb1⟩)
            | (go_at_call 114; refine (hP _).mono ?_; rintro e w2 ⟨rfl, rfl⟩)
            | (go_at_call 113; refine (hC _ hb1).mono ?_; rintro e w3 ⟨rfl, rfl⟩))
          exact bodyPost_ret (v := .tuple #[.string ⟨#[]⟩, .int .i64 4]) (by simp [results, Tryz.results70, go_sem]) rfl ⟨rfl, hb1⟩
        · exact absurd (by rw [hid_elim hr, if_neg h1, if_neg h2, if_neg h3, if_neg h4]) he
end Go.Proofs
