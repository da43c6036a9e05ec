import Derived.Test.YthifclklnopkfaaGreatDoorRefC
import Derived.Test.YthifclklnopkfaaGreatDoorNext
/-
  The document's answer: All.
-/
namespace Go.Proofs
open Go.RowKit Go.Sort Go.Lib Go.Shelf

/-- the infos of the things of one sort. -/
def partI (tm : Int) (b : Bool) (L : List ThingD) : List InfoD := (L.filter (fun t => t.token == b)).map (ThingD.info tm)
theorem partI_snoc (tm : Int) (b : Bool) (L : List ThingD) (t : ThingD) : partI tm b (L ++ [t]) = partI tm b L ++ (if t.token == b then [t.info tm] else []) := by
  unfold partI
  by_cases h : (t.token == b) = true <;> simp [h]
theorem partI_le (tm : Int) (b : Bool) (L : List ThingD) : (partI tm b L).length ≤ L.length := by
  unfold partI; rw [List.length_map]; exact List.length_filter_le _ _
/-- all that the document's vault tells. -/
def tellI (tm : Int) (L : List ThingD) : List InfoD := partI tm true L ++ partI tm false L
def uptoI (tm : Int) (L : List ThingD) (k : Nat) : List InfoD := match k with | 0 => [] | 1 => partI tm true L | _ => tellI tm L

theorem ownsRow_below {W W' : World} {base size n : Nat} {e : TypeId} {v : Value} {xs : List Value} (h : W.ownsRow base e size v n xs) (hb : Below W.heap.size W W') : W'.ownsRow base e size v n xs :=
  h.kept (row := none) ⟨hb.os, hb.tape, hb.output, hb.size, fun k hk _ => hb.block k hk⟩ (by by_cases h : v.ownBlock = none; exact .inl h; exact .inr h)

set_option maxRecDepth 100000 in
set_option maxHeartbeats 4000000 in
theorem Tryz.rAll (B : Nat) (vb g cap : Nat) (L : List ThingD) (tm tn ln : Int) (w : World) (h : Tryz.RVAt B w vb g cap L tm tn ln) :
    Calls Tryz.prog 33 #[.pointer (some ⟨vb, 0, none⟩)] w fun e w' => ∃ v : Value, e = .returned v ∧ w'.ownsRow w.heap.size 40 6 v (tellI tm L).length (flatI (tellI tm L)) ∧ Below w.heap.size w w' := by
  obtain ⟨i0, hi, hz0, hz1, hz2⟩ := info_parts Tryz.infoInfo
  have hlim := h.lim
  obtain ⟨len, hlen⟩ : ∃ len, L.length = len := ⟨_, rfl⟩
  rw [hlen] at hlim
  have Hlen := hid_intro hlen
  clear hlen
  go_enter Tryz.func33, Tryz.ntmps33
  go_wp2
  go_loopw [3, 4] (fun v j wr => ∃ k : Nat, k ≤ 2 ∧ j = .int .i64 k ∧ wr.ownsRow w.heap.size 40 6 v (uptoI tm L k).length (flatI (uptoI tm L k)) ∧ Below w.heap.size w wr) (fun _ j _ => 2 - (intOf j).toNat)
  case atStart => exact ⟨0, by omega, rfl, World.ownsRow_nil _ _ _ _, Below.refl _ _⟩
  case round =>
    obtain ⟨k, hk, rfl, hrow, hB⟩ := hrel
    by_cases hk2 : k < 2
    · obtain ⟨pre, hpre⟩ : ∃ pre, uptoI tm L k = pre := ⟨_, rfl⟩
      obtain ⟨b, hb⟩ : ∃ b : Bool, ((k : Int) == 0) = b := ⟨_, rfl⟩
      have hfin : Hid (uptoI tm L (k + 1) = pre ++ partI tm b L) := hid_intro (by
        match k, hk2 with
        | 0, _ => simp [uptoI] at hpre hb ⊢; simp [hpre, hb.symm]
        | 1, _ => simp [uptoI, tellI] at hpre hb ⊢; simp [← hpre, ← hb])
      have hpl : pre.length ≤ 100 := by
        rw [← hpre]
        match k, hk2 with
        | 0, _ => simp [uptoI]
        | 1, _ => simp only [uptoI]; have := partI_le tm true L; have := hid_elim Hlen; omega
      rw [hpre] at hrow
      clear hpre
      go_wp2
      rw [show decide ((k : Int) < 2) = true by simp; omega]
      go_loopw [3, 5] (fun v j wq => ∃ i : Nat, i ≤ len ∧ j = .int .i64 i ∧ wq.ownsRow w.heap.size 40 6 v (pre ++ partI tm b (L.take i)).length (flatI (pre ++ partI tm b (L.take i))) ∧ Below w.heap.size w wq) (fun _ j _ => len - (intOf j).toNat)
      case atStart => exact ⟨0, Nat.zero_le _, rfl, by simpa [partI] using hrow, hB⟩
      case round =>
        clear hrow hB
        obtain ⟨i, hil, rfl, hrow, hB⟩ := hrel
        have h' := h.below hB
        have c0 := h'.v.cell 0 (v := .slice (some ⟨g, 0, none⟩) L.length cap) rfl
        rw [hid_elim Hlen] at c0
        by_cases hin : i < len
        · obtain ⟨t, ht⟩ : ∃ t, L[i]? = some t := ⟨L[i]'(by have := hid_elim Hlen; omega), by simp [hid_elim Hlen, hin]⟩
          obtain ⟨x0, x1, x2, x3, x4, x5, x6, x7⟩ := h'.cells ht
          have htk := hid_intro (take_get ht)
          have hsn := hid_intro (partI_snoc tm b (L.take i) t)
          have hI := Tryz.rInfo t vb tm wr (h'.v.cell 1 (v := .int .u64 tm) rfl) (h.num t (List.mem_of_getElem? ht)) (h.ofs t (List.mem_of_getElem? ht))
          have hpl2 : (pre ++ partI tm b (L.take i)).length ≤ 200 := by
            have := partI_le tm b (L.take i)
            simp only [List.length_append]
            simp at this ⊢; omega
          simp only [ThingD.cells] at hI
          generalize t.info tm = x at *
          obtain ⟨id, st, at_, tr, tok, pth⟩ := x
          simp only [InfoD.cells, infoCells] at hI
          obtain ⟨acc, hacc⟩ : ∃ acc, pre ++ partI tm b (L.take i) = acc := ⟨_, rfl⟩
          rw [hacc] at hrow hpl2
          have Hacc := hid_intro hacc
          clear hacc
          have hwl := hB.size
          by_cases htb : (t.token == b) = true
          · have htb' : t.token = b := by simpa using htb
            have hsn' := hid_intro (show partI tm b (L.take i ++ [t]) = partI tm b (L.take i) ++ [⟨id, st, at_, tr, tok, pth⟩] by rw [hid_elim hsn, if_pos htb])
            have hfs := hid_intro (flatI_snoc acc ⟨id, st, at_, tr, tok, pth⟩)
            clear hsn htb
            rw [htb'] at x0 hI
            go_wp2_with (first
              | (go_at_call 58; refine hI.mono ?_; rintro e w1 ⟨rfl, hb1⟩; have hrow1 := ownsRow_below hrow hb1; have hwl1 := hb1.size)
              | (at_builtin; refine wpList_append_own _ rfl _ _ 36 rfl w.heap.size 40 i0 _ 6 72 Tryz.underlying36 hi hz0 hz1 hz2 rfl (by decide) _ _ _ rfl ((hrow1.alloc _).alloc _) ⟨w1.heap.size + 1, 0, none⟩ 1 1 [.string ⟨id.toArray⟩, .int .i64 st, .int .u64 at_, .int .i64 tr, .string ⟨tok.toArray⟩, .string ⟨pth.toArray⟩] rfl rfl (by have := cell_six_new (w1.alloc (.cells #[.string ⟨id.toArray⟩, .int .i64 st, .int .u64 at_, .int .i64 tr, .string ⟨tok.toArray⟩, .string ⟨pth.toArray⟩] 40)) (.string ⟨id.toArray⟩) (.int .i64 st) (.int .u64 at_) (.int .i64 tr) (.string ⟨tok.toArray⟩) (.string ⟨pth.toArray⟩) 40; rwa [World.size_alloc] at this) (by simp [Value.oneCell']) (by unfold maxLen; omega) (by omega) (by simp; omega) ?_))
            intro v' w2 hown' hgrow hn'
            clear hn'
            have hbk : ∀ q, u3.ownBlock = some q → w.heap.size ≤ q := fun q hq => (hrow.lt q hq).1
            have hB2 : Below w.heap.size w w2 := (((hB.trans (hb1.mono hwl)).alloc (by omega) _).alloc (by simp; omega) _).grown hgrow (by simp; omega) hbk
            have e : Hid (pre ++ partI tm b (L.take (i + 1)) = acc ++ [⟨id, st, at_, tr, tok, pth⟩]) := hid_intro (by rw [hid_elim htk, hid_elim hsn', ← List.append_assoc, hid_elim Hacc])
            clear hgrow hrow1 hrow hB hb1 x0 x1 x2 x3 x4 x5 x6 x7 hI c0
            go_wp2
            go_roundw
            case rel => exact ⟨i + 1, by omega, rfl, by rw [hid_elim e, List.length_append, hid_elim hfs]; exact hown', hB2⟩
            case measure => simp [intOf]; omega
          · have hne : (t.token == b) = false := by simpa using htb
            have e : Hid (pre ++ partI tm b (L.take (i + 1)) = acc) := hid_intro (by rw [hid_elim htk, hid_elim hsn, if_neg htb, List.append_nil, hid_elim Hacc])
            clear hsn htb hI
            go_wp2
            go_roundw
            case rel => exact ⟨i + 1, by omega, rfl, by rw [hid_elim e]; exact hrow, hB⟩
            case measure => simp [intOf]; omega
        · obtain rfl : i = len := by omega
          have e : Hid (pre ++ partI tm b (L.take i) = uptoI tm L (k + 1)) := hid_intro (by rw [take_all (Nat.le_of_eq (hid_elim Hlen)), hid_elim hfin])
          rw [hid_elim e] at hrow
          go_wp2
          go_roundw
          case rel => exact ⟨k + 1, by omega, rfl, hrow, hB⟩
          case measure => simp [intOf]; omega
    · obtain rfl : k = 2 := by omega
      go_wp2
      go_ret
      exact ⟨_, rfl, hrow, hB⟩
end Go.Proofs
