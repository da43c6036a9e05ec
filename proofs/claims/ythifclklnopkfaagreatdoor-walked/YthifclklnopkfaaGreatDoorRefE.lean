import Derived.Test.YthifclklnopkfaaGreatDoorRefD
/-
  The document's answer: New, Copy.
-/
namespace Go.Proofs
open Go.RowKit Go.Sort Go.Lib Go.Shelf

theorem Tryz.thingInfo : (Tryz.prog.info? 82).map (fun i => (i.zero, i.size, i.bytes)) = some (some (.agg #[.bool false, .int .i64 0, .int .i64 0, .string ⟨#[]⟩, .int .u64 0, .int .u64 0, .bool false, .int .i64 0]), 8, 72) := by kernel_rfl
def rootT : ThingD := ⟨true, 0, -1, [], 18446744073709551615, 0, false, 0⟩
theorem flatT_one (L : List ThingD) : ∀ u ∈ flatT L, u.oneCell' = true := by
  intro u hu
  obtain ⟨x, _, hx⟩ := List.mem_flatMap.1 hu
  simp only [ThingD.cells, List.mem_cons, List.not_mem_nil, or_false] at hx
  rcases hx with rfl | rfl | rfl | rfl | rfl | rfl | rfl | rfl <;> rfl
theorem ownsRow_base {W : World} {b b' size n : Nat} {e : TypeId} {v : Value} {xs : List Value} (h : W.ownsRow b e size v n xs) (hb : b' ≤ b) : W.ownsRow b' e size v n xs := by
  obtain ⟨h1, h2 | ⟨g, cap, cur, e1, e2, e3⟩⟩ := h
  · exact ⟨h1, .inl h2⟩
  · exact ⟨h1, .inr ⟨g, cap, cur, e1, Nat.le_trans hb e2, e3⟩⟩

set_option maxRecDepth 100000 in
set_option maxHeartbeats 2000000 in
theorem Tryz.rNew (now : Int) (w : World) :
    Calls Tryz.prog 19 #[.int .u64 now] w fun e w' => e = .returned (.pointer (some ⟨w.heap.size + 1, 0, none⟩)) ∧ Tryz.RVAt w.heap.size w' (w.heap.size + 1) w.heap.size 1 [rootT] now 1 1 ∧ Below w.heap.size w w' := by
  go_enter Tryz.func19, Tryz.ntmps19
  go_wp2
  go_ret
  refine ⟨rfl, ⟨?_, ?_, ?_, ?_, ?_⟩, ?_⟩
  · have := BoxN.new (w.alloc (.cells rootT.cells 82)) 85 #[.slice (some ⟨w.heap.size, 0, none⟩) 1 1, .int .u64 now, .int .i64 1, .int .i64 1]
    rw [World.size_alloc] at this
    exact this
  · refine ⟨rfl, .inr ⟨w.heap.size, 1, rootT.cells, rfl, Nat.le_refl _, ?_, Nat.le_refl _, by unfold maxLen; omega, rfl, rfl⟩⟩
    exact (BoxN.new w 82 rootT.cells).alloc _
  · show 1 ≤ 100; omega
  · intro t ht; rw [List.mem_singleton.1 ht]; show 0 < 9223372036854775808; omega
  · intro t ht; rw [List.mem_singleton.1 ht]; exact .inl rfl
  · exact ((Below.refl _ w).alloc (Nat.le_refl _) _).alloc (by simp) _

set_option maxRecDepth 100000 in
set_option maxHeartbeats 2000000 in
theorem Tryz.rCopy (B : Nat) (vb g cap : Nat) (L : List ThingD) (tm tn ln : Int) (w : World) (h : Tryz.RVAt B w vb g cap L tm tn ln) (hpos : 0 < L.length) :
    Calls Tryz.prog 64 #[.pointer (some ⟨vb, 0, none⟩)] w fun e w' => ∃ g' cap', e = .returned (.pointer (some ⟨w.heap.size, 0, none⟩)) ∧ Tryz.RVAt w.heap.size w' w.heap.size g' cap' L tm tn ln ∧ Below w.heap.size w w' := by
  obtain ⟨i0, hi, hz0, hz1, hz2⟩ := info_parts Tryz.thingInfo
  have c0 := h.v.cell 0 (v := .slice (some ⟨g, 0, none⟩) L.length cap) rfl
  have c1 := h.v.cell 1 (v := .int .u64 tm) rfl
  have c2 := h.v.cell 2 (v := .int .i64 tn) rfl
  have c3 := h.v.cell 3 (v := .int .i64 ln) rfl
  have lv := h.v.lt
  have lg := h.glt
  have hlim := h.lim
  go_enter Tryz.func64, Tryz.ntmps64
  go_wp2_with (at_builtin; refine wpList_append_own _ rfl _ _ 83 rfl (w.heap.size + 1) 82 i0 _ 8 72 Tryz.underlying83 hi hz0 hz1 hz2 rfl (by decide) _ _ _ rfl (World.ownsRow_nil _ _ _ _) ⟨g, 0, none⟩ L.length cap (flatT L) rfl ?c0 ?c1 ?c2 ?c3 ?c4 ?c5 ?_)
  case c0 => exact flatT_length L
  case c1 =>
    intro j u hj
    have := (h.row.alloc (.cells #[.slice (some ⟨g, 0, none⟩) L.length cap, .int .u64 tm, .int .i64 tn, .int .i64 ln] 85)).cells (g := g) rfl j u hj
    exact this
  case c2 => exact flatT_one L
  case c3 => unfold maxLen; omega
  case c4 => omega
  case c5 => simp
  intro v' w2 hown hgrow hn
  have hne : v' ≠ .slice none 0 0 := fun e => by have := hn.1 e; rw [this] at hpos; exact absurd hpos (by simp)
  clear hn
  obtain ⟨hl, ⟨e1, e2⟩ | ⟨g', cap', cur, rfl, e2, e3⟩⟩ := hown
  · exact absurd e1 hne
  have hown : w2.ownsRow (w.heap.size + 1) 82 8 (.slice (some ⟨g', 0, none⟩) L.length cap') L.length (flatT L) := ⟨hl, .inr ⟨g', cap', cur, rfl, e2, e3⟩⟩
  have bV := (BoxN.new w 85 #[.slice (some ⟨g, 0, none⟩) L.length cap, .int .u64 tm, .int .i64 tn, .int .i64 ln]).kept hgrow (by simp [Value.ownBlock])
  have d0 := bV.cell 0 (v := .slice (some ⟨g, 0, none⟩) L.length cap) rfl
  have f0 := bV.frozen 0
  have hB2 : Below w.heap.size w w2 := ((Below.refl _ w).alloc (Nat.le_refl _) _).grown hgrow (by simp) (by intro k hk; simp [Value.ownBlock] at hk)
  have hF : Hid (Tryz.RVAt w.heap.size (w2.setCell ⟨w.heap.size, 0, none⟩ (.slice (some ⟨g', 0, none⟩) L.length cap')) w.heap.size g' cap' L tm tn ln ∧ Below w.heap.size w (w2.setCell ⟨w.heap.size, 0, none⟩ (.slice (some ⟨g', 0, none⟩) L.length cap'))) := hid_intro ⟨⟨bV.set 0 _, ownsRow_base (hown.kept (grownBy_setCell' w2 w.heap.size _) (.inr (by simp [Value.ownBlock]; omega))) (by omega), h.lim, h.num, h.ofs⟩, hB2.setCell (p := ⟨w.heap.size, 0, none⟩) (Nat.le_refl _) _⟩
  clear hown e2 e3 hgrow hB2 hl hne bV c0 c1 c2 c3
  go_wp2
  go_ret
  exact ⟨g', cap', rfl, hid_elim hF⟩

theorem liveI_cases (tm : Int) (id : List UInt8) (tk : Bool) (L : List ThingD) : (∃ (i : Nat) (t : ThingD), L[i]? = some t ∧ t.id = id ∧ t.token = tk ∧ t.state tm = 1 ∧ liveI tm id tk L = i) ∨ liveI tm id tk L = -1 := by
  cases he : L.findIdx? (fun t => t.id == id) with
  | none => exact .inr (by rw [liveI, he])
  | some i =>
    obtain ⟨hlt, hid, -⟩ := List.findIdx?_eq_some_iff_getElem.1 he
    have hg : L[i]? = some L[i] := by simp [hlt]
    by_cases hc : (L[i].token == tk && L[i].state tm == 1) = true
    · refine .inl ⟨i, L[i], hg, by simpa using hid, ?_, ?_, ?_⟩
      · simp at hc; exact hc.1
      · simp at hc; exact hc.2
      · simp only [liveI, he, hg, hc, if_true]
    · exact .inr (by simp only [liveI, he, hg, hc]; rfl)

def authI (tm : Int) (id pth : List UInt8) (L : List ThingD) : Bool := match L.findIdx? (fun t => t.id == id) with
  | some i => match L[i]? with
    | some t => (t.token == false && t.state tm == 1) && t.pth == pth
    | none => false
  | none => false
theorem authI_hit {tm : Int} {id pth : List UInt8} {L : List ThingD} {i : Nat} {t : ThingD} (ht : L[i]? = some t) (hl : liveI tm id false L = i) : authI tm id pth L = (t.pth == pth) := by
  unfold liveI at hl
  cases he : L.findIdx? (fun t => t.id == id) with
  | none => rw [he] at hl; simp at hl
  | some j =>
    rw [he] at hl
    obtain ⟨hlt, -⟩ := List.findIdx?_eq_some_iff_getElem.1 he
    have hg : L[j]? = some L[j] := by simp [hlt]
    simp only [hg] at hl
    by_cases hc : (L[j].token == false && L[j].state tm == 1) = true
    · rw [if_pos hc] at hl
      obtain rfl : j = i := by omega
      rw [hg] at ht
      cases ht
      simp only [authI, he, hg, hc, Bool.true_and]
    · rw [if_neg hc] at hl; omega
theorem authI_miss {tm : Int} {id pth : List UInt8} {L : List ThingD} (hl : liveI tm id false L = -1) : authI tm id pth L = false := by
  unfold liveI at hl
  cases he : L.findIdx? (fun t => t.id == id) with
  | none => simp only [authI, he]
  | some j =>
    rw [he] at hl
    obtain ⟨hlt, -⟩ := List.findIdx?_eq_some_iff_getElem.1 he
    have hg : L[j]? = some L[j] := by simp [hlt]
    simp only [hg] at hl
    by_cases hc : (L[j].token == false && L[j].state tm == 1) = true
    · rw [if_pos hc] at hl; omega
    · have hc' : (L[j].token == false && L[j].state tm == 1) = false := by simpa using hc
      simp only [authI, he, hg, hc', Bool.false_and]

set_option maxRecDepth 100000 in
set_option maxHeartbeats 2000000 in
theorem Tryz.rAuth (B : Nat) (vb g cap : Nat) (L : List ThingD) (tm tn ln : Int) (id pth : List UInt8) (w : World) (h : Tryz.RVAt B w vb g cap L tm tn ln) :
    Calls Tryz.prog 78 #[.pointer (some ⟨vb, 0, none⟩), .string ⟨id.toArray⟩, .string ⟨pth.toArray⟩] w fun e w' => e = .returned (.bool (authI tm id pth L)) ∧ Below w.heap.size w w' := by
  have hL := Tryz.rLive B vb g cap L tm tn ln id false w h
  have hlim := h.lim
  rcases liveI_cases tm id false L with ⟨i, t, ht, -, -, -, hli⟩ | hli
  · have hres : Hid (authI tm id pth L = (t.pth == pth)) := hid_intro (authI_hit ht hli)
    rw [hli] at hL
    clear hli
    have hil : i < L.length := (List.getElem?_eq_some_iff.1 ht).1
    have hc := fun W (hb : Below w.heap.size w W) => ((h.below hb).cells ht).2.2.2.1
    have hv := fun W (hb : Below w.heap.size w W) => (h.below hb).v.cell 0 (v := .slice (some ⟨g, 0, none⟩) L.length cap) rfl
    generalize L.length = len at *
    generalize authI tm id pth L = res at *
    generalize t.pth = tp at *
    have hnn : (0 : Int) ≤ (i : Int) := by omega
    go_enter Tryz.func78, Tryz.ntmps78
    go_wp2_with (go_at_call 112; refine hL.mono ?_; rintro e w1 ⟨rfl, hb1⟩; have x3 := hc w1 hb1; have v0 := hv w1 hb1)
    go_ret
    exact ⟨by rw [hid_elim hres]; rfl, hb1⟩
  · have hres : Hid (authI tm id pth L = false) := hid_intro (authI_miss hli)
    rw [hli] at hL
    clear hli
    generalize authI tm id pth L = res at *
    go_enter Tryz.func78, Tryz.ntmps78
    go_wp2_with (go_at_call 112; refine hL.mono ?_; rintro e w1 ⟨rfl, hb1⟩)
    go_ret
    exact ⟨by rw [hid_elim hres]; rfl, hb1⟩
end Go.Proofs
