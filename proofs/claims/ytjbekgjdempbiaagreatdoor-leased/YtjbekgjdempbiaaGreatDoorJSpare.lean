import Derived.Test.YtjbekgjdempbiaaGreatDoorJLawA
import Derived.Test.YtjbekgjdempbiaaGreatDoorProg
import Derived.Test.YtjbekgjdempbiaaGreatDoorJRangeO
import Derived.WalkKit
import Derived.WalkSpells
import Derived.Deep.RegionHeld3
import Derived.Maps.OwnSet
/-
  The document's answer: New, Copy.
-/
namespace Go.Proofs
open Go.RowKit Go.Sort Go.Lib Go.Shelf

theorem Tryz.thingInfo : (Tryz.prog.info? 105).map (fun i => (i.zero, i.size, i.bytes)) = some (some (.agg #[.bool false, .int .i64 0, .int .i64 0, .string ⟨#[]⟩, .int .u64 0, .int .u64 0, .bool false, .int .i64 0]), 8, 72) := by kernel_rfl
def rootT : ThingD := ⟨true, 0, -1, [], 18446744073709551615, 0, false, 0⟩
theorem flatT_one (L : List ThingD) : ∀ u ∈ flatT L, u.oneCell' = true := by
  intro u hu
  obtain ⟨x, _, hx⟩ := List.mem_flatMap.1 hu
  simp only [ThingD.cells, List.mem_cons, List.not_mem_nil, or_false] at hx
  rcases hx with rfl | rfl | rfl | rfl | rfl | rfl | rfl | rfl <;> rfl
theorem ownsRow_base {W : World} {b b' size n : Nat} {e : TypeId} {v : Value} {xs : List Value} (h : W.ownsRow b e size v n xs) (hb : b' ≤ b) : W.ownsRow b' e size v n xs := by
  obtain ⟨h1, h2 | ⟨g, cap, cur, e1, e2, e3⟩⟩ := h
  · exact ⟨h1, .inl h2⟩
  · exact ⟨h1, .inr ⟨g, cap, cur, e1, Nat.le_trans hb e2, e3⟩⟩

set_option maxRecDepth 100000 in
set_option maxHeartbeats 2000000 in
theorem Tryz.rNew (now : Int) (w : World) :
    Calls Tryz.prog 37 #[.int .u64 now] w fun e w' => e = .returned (.pointer (some ⟨w.heap.size + 1, 0, none⟩)) ∧ Tryz.RVAt w.heap.size w' (w.heap.size + 1) w.heap.size 1 [rootT] now 1 1 ∧ Below w.heap.size w w' := by
  go_enter Tryz.func37, Tryz.ntmps37
  go_wp2
  go_ret
  refine ⟨rfl, ⟨?_, ?_, ?_, ?_, ?_⟩, ?_⟩
  · have := BoxN.new (w.alloc (.cells rootT.cells 105)) 108 #[.slice (some ⟨w.heap.size, 0, none⟩) 1 1, .int .u64 now, .int .i64 1, .int .i64 1]
    rw [World.size_alloc] at this
    exact this
  · refine ⟨rfl, .inr ⟨w.heap.size, 1, rootT.cells, rfl, Nat.le_refl _, ?_, Nat.le_refl _, by unfold maxLen; omega, rfl, rfl⟩⟩
    exact (BoxN.new w 105 rootT.cells).alloc _
  · show 1 ≤ 100; omega
  · intro t ht; rw [List.mem_singleton.1 ht]; show 0 < 9223372036854775808; omega
  · intro t ht; rw [List.mem_singleton.1 ht]; exact .inl rfl
  · exact ((Below.refl _ w).alloc (Nat.le_refl _) _).alloc (by simp) _

set_option maxRecDepth 100000 in
set_option maxHeartbeats 2000000 in
theorem Tryz.rCopy (B : Nat) (vb g cap : Nat) (L : List ThingD) (tm tn ln : Int) (w : World) (h : Tryz.RVAt B w vb g cap L tm tn ln) (hpos : 0 < L.length) :
    Calls Tryz.prog 106 #[.pointer (some ⟨vb, 0, none⟩)] w fun e w' => ∃ g' cap', e = .returned (.pointer (some ⟨w.heap.size, 0, none⟩)) ∧ Tryz.RVAt w.heap.size w' w.heap.size g' cap' L tm tn ln ∧ Below w.heap.size w w' := by
  obtain ⟨i0, hi, hz0, hz1, hz2⟩ := info_parts Tryz.thingInfo
  have c0 := h.v.cell 0 (v := .slice (some ⟨g, 0, none⟩) L.length cap) rfl
  have c1 := h.v.cell 1 (v := .int .u64 tm) rfl
  have c2 := h.v.cell 2 (v := .int .i64 tn) rfl
  have c3 := h.v.cell 3 (v := .int .i64 ln) rfl
  have lv := h.v.lt
  have lg := h.glt
  have hlim := h.lim
  go_enter Tryz.func106, Tryz.ntmps106
  go_wp2_with (at_builtin; refine wpList_append_own _ rfl _ _ 106 rfl (w.heap.size + 1) 105 i0 _ 8 72 Tryz.underlying106 hi hz0 hz1 hz2 rfl (by decide) _ _ _ rfl (World.ownsRow_nil _ _ _ _) ⟨g, 0, none⟩ L.length cap (flatT L) rfl ?c0 ?c1 ?c2 ?c3 ?c4 ?c5 ?_)
  case c0 => exact flatT_length L
  case c1 =>
    intro j u hj
    have := (h.row.alloc (.cells #[.slice (some ⟨g, 0, none⟩) L.length cap, .int .u64 tm, .int .i64 tn, .int .i64 ln] 108)).cells (g := g) rfl j u hj
    exact this
  case c2 => exact flatT_one L
  case c3 => unfold maxLen; omega
  case c4 => omega
  case c5 => simp
  intro v' w2 hown hgrow hn
  have hne : v' ≠ .slice none 0 0 := fun e => by have := hn.1 e; rw [this] at hpos; exact absurd hpos (by simp)
  clear hn
  obtain ⟨hl, ⟨e1, e2⟩ | ⟨g', cap', cur, rfl, e2, e3⟩⟩ := hown
  · exact absurd e1 hne
  have hown : w2.ownsRow (w.heap.size + 1) 105 8 (.slice (some ⟨g', 0, none⟩) L.length cap') L.length (flatT L) := ⟨hl, .inr ⟨g', cap', cur, rfl, e2, e3⟩⟩
  have bV := (BoxN.new w 108 #[.slice (some ⟨g, 0, none⟩) L.length cap, .int .u64 tm, .int .i64 tn, .int .i64 ln]).kept hgrow (by simp [Value.ownBlock])
  have d0 := bV.cell 0 (v := .slice (some ⟨g, 0, none⟩) L.length cap) rfl
  have f0 := bV.frozen 0
  have hB2 : Below w.heap.size w w2 := ((Below.refl _ w).alloc (Nat.le_refl _) _).grown hgrow (by simp) (by intro k hk; simp [Value.ownBlock] at hk)
  have hF : Hid (Tryz.RVAt w.heap.size (w2.setCell ⟨w.heap.size, 0, none⟩ (.slice (some ⟨g', 0, none⟩) L.length cap')) w.heap.size g' cap' L tm tn ln ∧ Below w.heap.size w (w2.setCell ⟨w.heap.size, 0, none⟩ (.slice (some ⟨g', 0, none⟩) L.length cap'))) := hid_intro ⟨⟨bV.set 0 _, ownsRow_base (hown.kept (grownBy_setCell' w2 w.heap.size _) (.inr (by simp [Value.ownBlock]; omega))) (by omega), h.lim, h.num, h.ofs⟩, hB2.setCell (p := ⟨w.heap.size, 0, none⟩) (Nat.le_refl _) _⟩
  clear hown e2 e3 hgrow hB2 hl hne bV c0 c1 c2 c3
  go_wp2
  go_ret
  exact ⟨g', cap', rfl, hid_elim hF⟩

theorem liveI_cases (tm : Int) (id : List UInt8) (tk : Bool) (L : List ThingD) : (∃ (i : Nat) (t : ThingD), L[i]? = some t ∧ t.id = id ∧ t.token = tk ∧ t.state tm = 1 ∧ liveI tm id tk L = i) ∨ liveI tm id tk L = -1 := by
  cases he : L.findIdx? (fun t => t.id == id) with
  | none => exact .inr (by rw [liveI, he])
  | some i =>
    obtain ⟨hlt, hid, -⟩ := List.findIdx?_eq_some_iff_getElem.1 he
    have hg : L[i]? = some L[i] := by simp [hlt]
    by_cases hc : (L[i].token == tk && L[i].state tm == 1) = true
    · refine .inl ⟨i, L[i], hg, by simpa using hid, ?_, ?_, ?_⟩
      · simp at hc; exact hc.1
      · simp at hc; exact hc.2
      · simp only [liveI, he, hg, hc, if_true]
    · exact .inr (by simp only [liveI, he, hg, hc]; rfl)

def authI (tm : Int) (id pth : List UInt8) (L : List ThingD) : Bool := match L.findIdx? (fun t => t.id == id) with
  | some i => match L[i]? with
    | some t => (t.token == false && t.state tm == 1) && t.pth == pth
    | none => false
  | none => false
theorem authI_hit {tm : Int} {id pth : List UInt8} {L : List ThingD} {i : Nat} {t : ThingD} (ht : L[i]? = some t) (hl : liveI tm id false L = i) : authI tm id pth L = (t.pth == pth) := by
  unfold liveI at hl
  cases he : L.findIdx? (fun t => t.id == id) with
  | none => rw [he] at hl; simp at hl
  | some j =>
    rw [he] at hl
    obtain ⟨hlt, -⟩ := List.findIdx?_eq_some_iff_getElem.1 he
    have hg : L[j]? = some L[j] := by simp [hlt]
    simp only [hg] at hl
    by_cases hc : (L[j].token == false && L[j].state tm == 1) = true
    · rw [if_pos hc] at hl
      obtain rfl : j = i := by omega
      rw [hg] at ht
      cases ht
      simp only [authI, he, hg, hc, Bool.true_and]
    · rw [if_neg hc] at hl; omega
theorem authI_miss {tm : Int} {id pth : List UInt8} {L : List ThingD} (hl : liveI tm id false L = -1) : authI tm id pth L = false := by
  unfold liveI at hl
  cases he : L.findIdx? (fun t => t.id == id) with
  | none => simp only [authI, he]
  | some j =>
    rw [he] at hl
    obtain ⟨hlt, -⟩ := List.findIdx?_eq_some_iff_getElem.1 he
    have hg : L[j]? = some L[j] := by simp [hlt]
    simp only [hg] at hl
    by_cases hc : (L[j].token == false && L[j].state tm == 1) = true
    · rw [if_pos hc] at hl; omega
    · have hc' : (L[j].token == false && L[j].state tm == 1) = false := by simpa using hc
      simp only [authI, he, hg, hc', Bool.false_and]

set_option maxRecDepth 100000 in
set_option maxHeartbeats 2000000 in
theorem Tryz.rAuth (B : Nat) (vb g cap : Nat) (L : List ThingD) (tm tn ln : Int) (id pth : List UInt8) (w : World) (h : Tryz.RVAt B w vb g cap L tm tn ln) :
    Calls Tryz.prog 117 #[.pointer (some ⟨vb, 0, none⟩), .string ⟨id.toArray⟩, .string ⟨pth.toArray⟩] w fun e w' => e = .returned (.bool (authI tm id pth L)) ∧ Below w.heap.size w w' := by
  have hL := Tryz.rLive B vb g cap L tm tn ln id false w h
  have hlim := h.lim
  rcases liveI_cases tm id false L with ⟨i, t, ht, -, -, -, hli⟩ | hli
  · have hres : Hid (authI tm id pth L = (t.pth == pth)) := hid_intro (authI_hit ht hli)
    rw [hli] at hL
    clear hli
    have hil : i < L.length := (List.getElem?_eq_some_iff.1 ht).1
    have hc := fun W (hb : Below w.heap.size w W) => ((h.below hb).cells ht).2.2.2.1
    have hv := fun W (hb : Below w.heap.size w W) => (h.below hb).v.cell 0 (v := .slice (some ⟨g, 0, none⟩) L.length cap) rfl
    generalize L.length = len at *
    generalize authI tm id pth L = res at *
    generalize t.pth = tp at *
    have hnn : (0 : Int) ≤ (i : Int) := by omega
    go_enter Tryz.func117, Tryz.ntmps117
    go_wp2_with (go_at_call 154; refine hL.mono ?_; rintro e w1 ⟨rfl, hb1⟩; have x3 := hc w1 hb1; have v0 := hv w1 hb1)
    go_ret
    exact ⟨by rw [hid_elim hres]; rfl, hb1⟩
  · have hres : Hid (authI tm id pth L = false) := hid_intro (authI_miss hli)
    rw [hli] at hL
    clear hli
    generalize authI tm id pth L = res at *
    go_enter Tryz.func117, Tryz.ntmps117
    go_wp2_with (go_at_call 154; refine hL.mono ?_; rintro e w1 ⟨rfl, hb1⟩)
    go_ret
    exact ⟨by rw [hid_elim hres]; rfl, hb1⟩
end Go.Proofs

/-
  The document's answer: pathed.
-/
namespace Go.Proofs
open Go.RowKit Go.Sort Go.Lib Go.Shelf

/-- a letter of a path's name. -/
def nameCh (c : UInt8) : Bool := (97 ≤ c.toNat && c.toNat ≤ 122) || (48 ≤ c.toNat && c.toNat ≤ 57) || c.toNat == 45
/-- one letter more: none: it is no path; else: is a name open? -/
def pstep (st : Option Bool) (c : UInt8) : Option Bool := match st with
  | none => none
  | some o => if c.toNat = 47 then (if o then some false else none) else if nameCh c then some true else none
def pathI (s : List UInt8) : Bool := s.foldl pstep (some false) == some true && decide (s.length ≤ 24)
theorem pstep_none (s : List UInt8) : s.foldl pstep none = none := by
  induction s with
  | nil => rfl
  | cons c s ih => exact ih
theorem pathI_cut {s : List UInt8} {k : Nat} (h : (s.take k).foldl pstep (some false) = none) : pathI s = false := by
  have : s.foldl pstep (some false) = none := by
    rw [← List.take_append_drop k s, List.foldl_append, h, pstep_none]
  simp [pathI, this]
theorem pstep_take {s : List UInt8} {k : Nat} {c : UInt8} {o : Bool} (hk : s[k]? = some c) (h : (s.take k).foldl pstep (some false) = some o) : (s.take (k + 1)).foldl pstep (some false) = pstep (some o) c := by
  rw [take_get hk, List.foldl_append, h]; rfl

theorem pstep_bad {c : UInt8} {b : Bool} (h : c.toNat ≠ 47 ∧ ¬ ((97 ≤ c.toNat ∧ c.toNat ≤ 122) ∨ (48 ≤ c.toNat ∧ c.toNat ≤ 57) ∨ c.toNat = 45)) : pstep (some b) c = none := by
  have hn : nameCh c = false := by
    cases hb : nameCh c
    · rfl
    · exfalso
      simp [nameCh] at hb
      omega
  simp only [pstep, if_neg h.1, hn]; rfl
theorem pstep_good {c : UInt8} {b : Bool} (h : c.toNat ≠ 47 ∧ ((97 ≤ c.toNat ∧ c.toNat ≤ 122) ∨ (48 ≤ c.toNat ∧ c.toNat ≤ 57) ∨ c.toNat = 45)) : pstep (some b) c = some true := by
  have hn : nameCh c = true := by
    simp [nameCh]
    omega
  simp only [pstep, if_neg h.1, hn, if_true]
theorem pstep_bar {c : UInt8} {b : Bool} (h : c.toNat = 47) : pstep (some b) c = if b then some false else none := by
  simp only [pstep, if_pos h]

set_option maxRecDepth 100000 in
set_option maxHeartbeats 4000000 in
theorem Tryz.rPathed (s : List UInt8) (hs : s.length ≤ 9223372036854775807) (w : World) :
    Calls Tryz.prog 156 #[.string ⟨s.toArray⟩] w fun e w' => e = .returned (.bool (pathI s)) ∧ w' = w := by
  go_enter Tryz.func156, Tryz.ntmps156
  go_wp2
  go_loopw [3, 4] (fun o i wr => ∃ (k : Nat) (b : Bool), k ≤ s.length ∧ i = .int .i64 k ∧ o = .bool b ∧ Hid ((s.take k).foldl pstep (some false) = some b) ∧ wr = w) (fun _ i _ => s.length - (intOf i).toNat)
  case atStart => exact ⟨0, false, Nat.zero_le _, rfl, rfl, hid_intro rfl, rfl⟩
  case round =>
    obtain ⟨k, b, hk, rfl, rfl, hst, rfl⟩ := hrel
    by_cases hkl : k < s.length
    · obtain ⟨c, hc⟩ : ∃ c, s[k]? = some c := ⟨s[k], by simp [hkl]⟩
      have hck : ∀ hp, ((⟨s.toArray⟩ : ByteArray)[k]'hp) = c := fun hp => by
        have h1 : s[k]'hkl = c := by simpa [hkl] using hc
        rw [← h1]; rfl
      have HP := hid_intro (fun o => pstep_take (o := o) hc)
      clear hc
      cases b
      all_goals
        go_wp2
        all_goals simp only [hck] at *
        all_goals try simp only [beq_iff_eq, beq_eq_false_iff_ne, bne_iff_ne, ne_eq, bne_eq_false_iff_eq] at *
      all_goals first
        | (go_ret
           refine ⟨?_, rfl⟩
           rw [pathI_cut (k := k + 1) (by rw [hid_elim HP _ (hid_elim hst)]; first | exact pstep_bad (by omega) | (rw [pstep_bar (by omega)]; rfl))]
           rfl)
        | (go_roundw
           case rel => exact ⟨k + 1, _, by omega, rfl, rfl, hid_intro (by rw [hid_elim HP _ (hid_elim hst)]; first | exact pstep_good (by omega) | (rw [pstep_bar (by omega)]; rfl)), by first | rfl | trivial⟩
           case measure => simp [intOf]; omega)
    · obtain rfl : k = s.length := by omega
      have htk := hid_elim hst
      rw [List.take_length] at htk
      have hres : Hid (pathI s = (b && decide (s.length ≤ 24))) := hid_intro (by
        cases b <;> simp [pathI, htk])
      clear hst htk
      cases b
      all_goals
        go_wp2
        go_ret
        refine ⟨?_, rfl⟩
        rw [hid_elim hres]
        first | rfl | (simp; try omega)
end Go.Proofs

/-
  Package plain: what goes around each call.
-/
namespace Go.Proofs
open Go.RowKit Go.Sort

def fallV (a b c d : Int) : Value := .agg #[.int .i64 a, .int .i64 b, .int .i64 c, .int .i64 d]

theorem BoxN.ne {W : World} {B B' : Nat} {t t' : TypeId} {cs cs' : Array Value} (h : BoxN W B t cs) (h' : BoxN W B' t' cs') (hne : t ≠ t') : B ≠ B' := by
  rintro rfl
  have e : some (Obj.cells cs t (0, 0)) = some (Obj.cells cs' t' (0, 0)) := h.symm.trans h'
  simp at e
  exact hne e.2

set_option maxHeartbeats 1000000 in
theorem Tryz.well (w : World) : Calls Tryz.prog 16 #[] w fun e w' => e = .returned (fallV (-1) (-1) 0 0) ∧ Below w.heap.size w w' := by
  unfold fallV
  go_enter Tryz.func16, Tryz.ntmps16
  go_wp2
  exact bodyPost_ret (v := .agg #[.int .i64 (-1), .int .i64 (-1), .int .i64 0, .int .i64 0]) (by simp [results, Tryz.results16, go_sem]) rfl ⟨rfl, (Below.refl _ _).alloc (Nat.le_refl _) _⟩

theorem set_other (w : World) (db i k : Nat) (v : Value) (hd : k ≠ db) : (w.setCell ⟨db, i, none⟩ v).heap[k]? = w.heap[k]? := by
  show (w.heap.modify db _)[k]? = _
  rw [Array.getElem?_modify, if_neg (fun e => hd e.symm)]
theorem grown_two (w : World) (db i i' : Nat) (v v' : Value) (o : Obj) : w.grownBy (((w.setCell ⟨db, i, none⟩ v).setCell ⟨db, i', none⟩ v').alloc o).drew (some db) :=
  ⟨rfl, rfl, rfl, by simp [World.drew], fun k hk hne => by
    have hd : k ≠ db := fun e => hne (by rw [e])
    show (((w.setCell ⟨db, i, none⟩ v).setCell ⟨db, i', none⟩ v').heap.push o)[k]? = _
    rw [Array.getElem?_push_lt (by simpa using hk), ← Array.getElem?_eq_getElem]
    rw [set_other _ _ _ _ _ hd, set_other _ _ _ _ _ hd]⟩
/-- what holds throughout the two stores. -/
abbrev Tryz.FallP (hb db fb : Nat) (a b : Int) (W : World) : Prop :=
  (W.cell? ⟨hb, 0, none⟩ = some (.pointer (some ⟨db, 0, none⟩)) ∧ W.cell? ⟨fb, 0, none⟩ = some (.int .i64 a) ∧ W.cell? ⟨fb, 1, none⟩ = some (.int .i64 b)) ∧
  (W.cell? ⟨db, 3, none⟩ = some (cellOr W ⟨db, 3, none⟩) ∧ W.cell? ⟨db, 4, none⟩ = some (cellOr W ⟨db, 4, none⟩)) ∧ W.frozen? ⟨db, 3, none⟩ = false ∧ W.frozen? ⟨db, 4, none⟩ = false
theorem Tryz.FallP.start {W : World} {hb db fb : Nat} {a b c d : Int} {cs ds : Array Value} (hs : W.heap.size = fb) (hH : BoxN W hb 78 cs) (h0 : cs[0]? = some (.pointer (some ⟨db, 0, none⟩))) (hD : BoxN W db 100 ds) (h6 : ds.size = 6) :
    Tryz.FallP hb db fb a b (W.alloc (.cells #[.int .i64 a, .int .i64 b, .int .i64 c, .int .i64 d] 29)).drew := by
  subst hs
  have bF := BoxN.new W 29 #[.int .i64 a, .int .i64 b, .int .i64 c, .int .i64 d]
  have bH := hH.alloc (.cells #[.int .i64 a, .int .i64 b, .int .i64 c, .int .i64 d] 29)
  have bD := hD.alloc (.cells #[.int .i64 a, .int .i64 b, .int .i64 c, .int .i64 d] 29)
  exact ⟨⟨bH.cell 0 h0, bF.cell 0 rfl, bF.cell 1 rfl⟩, ⟨cellOr_some (by have h := bD.cell 3 (v := ds[3]) (by simp [h6]); show ((W.alloc _).cell? _).isSome; rw [h]; rfl), cellOr_some (by have h := bD.cell 4 (v := ds[4]) (by simp [h6]); show ((W.alloc _).cell? _).isSome; rw [h]; rfl)⟩, bD.frozen 3, bD.frozen 4⟩
theorem Tryz.FallP.start1 {w : World} {hb db : Nat} {a b c d : Int} {c1 c2 m1 m2 p l f dn : Value} (hH : BoxN w hb 78 #[.pointer (some ⟨db, 0, none⟩), c1, c2]) (hD : BoxN w db 100 #[m1, m2, p, l, f, dn]) (hne : hb ≠ db) (i : Nat) (v : Value) :
    Tryz.FallP hb db w.heap.size a b ((w.setCell ⟨db, i, none⟩ v).alloc (.cells #[.int .i64 a, .int .i64 b, .int .i64 c, .int .i64 d] 29)).drew :=
  Tryz.FallP.start (by simp) (hH.other hne i v) rfl (hD.set i v) (by simp)
theorem Tryz.FallP.start2 {w : World} {hb db : Nat} {a b c d : Int} {c1 c2 m1 m2 p l f dn : Value} (hH : BoxN w hb 78 #[.pointer (some ⟨db, 0, none⟩), c1, c2]) (hD : BoxN w db 100 #[m1, m2, p, l, f, dn]) (hne : hb ≠ db) (i : Nat) (v : Value) (i' : Nat) (v' : Value) :
    Tryz.FallP hb db w.heap.size a b (((w.setCell ⟨db, i, none⟩ v).setCell ⟨db, i', none⟩ v').alloc (.cells #[.int .i64 a, .int .i64 b, .int .i64 c, .int .i64 d] 29)).drew :=
  Tryz.FallP.start (by simp) ((hH.other hne i v).other hne i' v') rfl ((hD.set i v).set i' v') (by simp)
set_option maxHeartbeats 1000000 in
theorem Tryz.before (hb db : Nat) (c1 c2 m1 m2 p l f dn : Value) (a b c d : Int) (w : World) (hH : BoxN w hb 78 #[.pointer (some ⟨db, 0, none⟩), c1, c2]) (hD : BoxN w db 100 #[m1, m2, p, l, f, dn]) :
    Calls Tryz.prog 40 #[.pointer (some ⟨hb, 0, none⟩), fallV a b c d] w fun e w' => e = .returned (.tuple #[]) ∧ BoxN w' db 100 #[m1, m2, p, .int .i64 a, .int .i64 b, dn] ∧ w.grownBy w' (some db) := by
  have lH := hH.lt
  have lD := hD.lt
  have hne := hH.ne hD (by decide)
  unfold fallV
  go_enter Tryz.func40, Tryz.ntmps40
  go_wp2
  go_region_held3 (Tryz.FallP hb db w.heap.size a b) (first
    | with_reducible exact Tryz.FallP.start rfl hH rfl hD rfl
    | with_reducible exact Tryz.FallP.start1 hH hD hne _ _
    | with_reducible exact Tryz.FallP.start2 hH hD hne _ _ _ _
    | with_reducible assumption) (fail)
  all_goals
    go_wp2
    go_end0
    exact ⟨rfl, ((hD.set 3 _).set 4 _).alloc _, grown_two _ _ _ _ _ _ _⟩
set_option maxHeartbeats 1000000 in
theorem Tryz.after (hb db : Nat) (c1 c2 m1 m2 p l f : Value) (a b c d : Int) (w : World) (hH : BoxN w hb 78 #[.pointer (some ⟨db, 0, none⟩), c1, c2]) (hD : BoxN w db 100 #[m1, m2, p, l, f, .bool false]) :
    Calls Tryz.prog 42 #[.pointer (some ⟨hb, 0, none⟩), fallV a b c d] w fun e w' => e = .returned (.tuple #[]) ∧ BoxN w' db 100 #[m1, m2, p, .int .i64 (-1), .int .i64 (-1), .bool false] ∧ w.grownBy w' (some db) := by
  have h0 := hH.cell 0 (v := .pointer (some ⟨db, 0, none⟩)) rfl
  have d5 := hD.cell 5 (v := .bool false) rfl
  have lH := hH.lt
  have lD := hD.lt
  have hne := hH.ne hD (by decide)
  unfold fallV
  go_enter Tryz.func42, Tryz.ntmps42
  go_wp2
  go_region_held3 (Tryz.FallP hb db w.heap.size a b) (first
    | with_reducible exact Tryz.FallP.start rfl hH rfl hD rfl
    | with_reducible exact Tryz.FallP.start1 hH hD hne _ _
    | with_reducible exact Tryz.FallP.start2 hH hD hne _ _ _ _
    | with_reducible assumption) (fail)
  all_goals
    go_wp2
    go_end0
    exact ⟨rfl, ((hD.set 3 _).set 4 _).alloc _, grown_two _ _ _ _ _ _ _⟩
end Go.Proofs

/-
  All blocks but some are as they were.
-/
namespace Go.Proofs
open Go.RowKit Go.Sort

/-- all blocks but these are as they were. -/
structure Spares (bs : List Nat) (W W' : World) : Prop where
  os : W'.os = W.os
  tape : W'.tape = W.tape
  output : W'.output = W.output
  size : W.heap.size ≤ W'.heap.size
  block : ∀ k, k < W.heap.size → k ∉ bs → W'.heap[k]? = W.heap[k]?
section
variable {W W' W'' : World} {bs : List Nat}
theorem Spares.of_below (h : Below W.heap.size W W') : Spares bs W W' := ⟨h.os, h.tape, h.output, h.size, fun k hk _ => h.block k hk⟩
theorem Spares.of_grown {b : Nat} (h : W.grownBy W' (some b)) (hb : b ∈ bs) : Spares bs W W' := ⟨h.os, h.tape, h.output, h.size, fun k hk hn => h.block k hk (fun e => hn (by injection e with e; rw [e]; exact hb))⟩
theorem Spares.trans (h : Spares bs W W') (h' : Spares bs W' W'') : Spares bs W W'' := ⟨h'.os.trans h.os, h'.tape.trans h.tape, h'.output.trans h.output, Nat.le_trans h.size h'.size, fun k hk hn => (h'.block k (Nat.lt_of_lt_of_le hk h.size) hn).trans (h.block k hk hn)⟩
theorem Spares.mono {bs' : List Nat} (h : Spares bs W W') (hs : ∀ b ∈ bs, b ∈ bs') : Spares bs' W W' := ⟨h.os, h.tape, h.output, h.size, fun k hk hn => h.block k hk (fun e => hn (hs k e))⟩
theorem Spares.box {B : Nat} {t : TypeId} {cs : Array Value} (h : Spares bs W W') (hB : BoxN W B t cs) (hn : B ∉ bs) : BoxN W' B t cs := (h.block B hB.lt hn).trans hB
theorem Spares.map {H : Type} {P : Program} {k : TypeId} {R : Value → Option (DataW H × List MemPlace)} {D : DataW H} {b n : Nat} (h : Spares bs W W') (hm : W.ownsMap P k R b n D) (hn : b ∉ bs) : W'.ownsMap P k R b n D := by
  have hl := hm.lt
  obtain ⟨es, clock, hb, F, hs, hD⟩ := hm
  exact ⟨es, clock, (h.block b hl hn).trans hb, F, hs, hD⟩
theorem Spares.row {base size n g cap : Nat} {e : TypeId} {xs : List Value} (h : Spares bs W W') (hr : W.ownsRow base e size (.slice (some ⟨g, 0, none⟩) n cap) n xs) (hn : g ∉ bs) : W'.ownsRow base e size (.slice (some ⟨g, 0, none⟩) n cap) n xs := by
  obtain ⟨h1, ⟨e1, -⟩ | ⟨g', cap', cur, e1, e2, e3, e4⟩⟩ := hr
  · cases e1
  · cases e1
    exact ⟨h1, .inr ⟨g, cap, cur, rfl, e2, Spares.box (t := e) (cs := cur) h e3 hn, e4⟩⟩
theorem Spares.below {B : Nat} (h : Spares bs W W') (hB : B ≤ W.heap.size) (hn : ∀ b ∈ bs, B ≤ b) : Below B W W' := ⟨h.os, h.tape, h.output, h.size, fun k hk => h.block k (by omega) (fun e => by have := hn k e; omega)⟩
end
theorem Spares.set {bs : List Nat} {W W' : World} (h : Spares bs W W') {b : Nat} (hb : b ∈ bs) (i : Nat) (v : Value) : Spares bs W (W'.setCell ⟨b, i, none⟩ v) :=
  ⟨h.os, h.tape, h.output, by simpa using h.size, fun k hk hn => by rw [set_other _ _ _ _ _ (fun e => hn (by rw [e]; exact hb))]; exact h.block k hk hn⟩
theorem Spares.alloc {bs : List Nat} {W W' : World} (h : Spares bs W W') (o : Obj) : Spares bs W (W'.alloc o) := h.trans (Spares.of_below ((Below.refl _ _).alloc (Nat.le_refl _) o))
theorem Spares.drew {bs : List Nat} {W W' : World} (h : Spares bs W W') : Spares bs W W'.drew := h.trans (Spares.of_below ((Below.refl _ _).drew))

end Go.Proofs
