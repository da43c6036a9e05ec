import Derived.Test.YthifclklnopkfaaGreatDoorRefE
/-
  The document's answer: pathed.
-/
namespace Go.Proofs
open Go.RowKit Go.Sort Go.Lib Go.Shelf

/-- a letter of a path's name. -/
def nameCh (c : UInt8) : Bool := (97 ≤ c.toNat && c.toNat ≤ 122) || (48 ≤ c.toNat && c.toNat ≤ 57) || c.toNat == 45
/-- one letter more: none: it is no path; else: is a name open? -/
def pstep (st : Option Bool) (c : UInt8) : Option Bool := match st with
  | none => none
  | some o => if c.toNat = 47 then (if o then some false else none) else if nameCh c then some true else none
def pathI (s : List UInt8) : Bool := s.foldl pstep (some false) == some true && decide (s.length ≤ 24)
theorem pstep_none (s : List UInt8) : s.foldl pstep none = none := by
  induction s with
  | nil => rfl
  | cons c s ih => exact ih
theorem pathI_cut {s : List UInt8} {k : Nat} (h : (s.take k).foldl pstep (some false) = none) : pathI s = false := by
  have : s.foldl pstep (some false) = none := by
    rw [← List.take_append_drop k s, List.foldl_append, h, pstep_none]
  simp [pathI, this]
theorem pstep_take {s : List UInt8} {k : Nat} {c : UInt8} {o : Bool} (hk : s[k]? = some c) (h : (s.take k).foldl pstep (some false) = some o) : (s.take (k + 1)).foldl pstep (some false) = pstep (some o) c := by
  rw [take_get hk, List.foldl_append, h]; rfl

theorem pstep_bad {c : UInt8} {b : Bool} (h : c.toNat ≠ 47 ∧ ¬ ((97 ≤ c.toNat ∧ c.toNat ≤ 122) ∨ (48 ≤ c.toNat ∧ c.toNat ≤ 57) ∨ c.toNat = 45)) : pstep (some b) c = none := by
  have hn : nameCh c = false := by
    cases hb : nameCh c
    · rfl
    · exfalso
      simp [nameCh] at hb
      omega
  simp only [pstep, if_neg h.1, hn]; rfl
theorem pstep_good {c : UInt8} {b : Bool} (h : c.toNat ≠ 47 ∧ ((97 ≤ c.toNat ∧ c.toNat ≤ 122) ∨ (48 ≤ c.toNat ∧ c.toNat ≤ 57) ∨ c.toNat = 45)) : pstep (some b) c = some true := by
  have hn : nameCh c = true := by
    simp [nameCh]
    omega
  simp only [pstep, if_neg h.1, hn, if_true]
theorem pstep_bar {c : UInt8} {b : Bool} (h : c.toNat = 47) : pstep (some b) c = if b then some false else none := by
  simp only [pstep, if_pos h]

set_option maxRecDepth 100000 in
set_option maxHeartbeats 4000000 in
theorem Tryz.rPathed (s : List UInt8) (hs : s.length ≤ 9223372036854775807) (w : World) :
    Calls Tryz.prog 114 #[.string ⟨s.toArray⟩] w fun e w' => e = .returned (.bool (pathI s)) ∧ w' = w := by
  go_enter Tryz.func114, Tryz.ntmps114
  go_wp2
  go_loopw [3, 4] (fun o i wr => ∃ (k : Nat) (b : Bool), k ≤ s.length ∧ i = .int .i64 k ∧ o = .bool b ∧ Hid ((s.take k).foldl pstep (some false) = some b) ∧ wr = w) (fun _ i _ => s.length - (intOf i).toNat)
  case atStart => exact ⟨0, false, Nat.zero_le _, rfl, rfl, hid_intro rfl, rfl⟩
  case round =>
    obtain ⟨k, b, hk, rfl, rfl, hst, rfl⟩ := hrel
    by_cases hkl : k < s.length
    · obtain ⟨c, hc⟩ : ∃ c, s[k]? = some c := ⟨s[k], by simp [hkl]⟩
      have hck : ∀ hp, ((⟨s.toArray⟩ : ByteArray)[k]'hp) = c := fun hp => by
        have h1 : s[k]'hkl = c := by simpa [hkl] using hc
        rw [← h1]; rfl
      have HP := hid_intro (fun o => pstep_take (o := o) hc)
      clear hc
      cases b
      all_goals
        go_wp2
        all_goals simp only [hck] at *
        all_goals try simp only [beq_iff_eq, beq_eq_false_iff_ne, bne_iff_ne, ne_eq, bne_eq_false_iff_eq] at *
      all_goals first
        | (go_ret
           refine ⟨?_, rfl⟩
           rw [pathI_cut (k := k + 1) (by rw [hid_elim HP _ (hid_elim hst)]; first | exact pstep_bad (by omega) | (rw [pstep_bar (by omega)]; rfl))]
           rfl)
        | (go_roundw
           case rel => exact ⟨k + 1, _, by omega, rfl, rfl, hid_intro (by rw [hid_elim HP _ (hid_elim hst)]; first | exact pstep_good (by omega) | (rw [pstep_bar (by omega)]; rfl)), by first | rfl | trivial⟩
           case measure => simp [intOf]; omega)
    · obtain rfl : k = s.length := by omega
      have htk := hid_elim hst
      rw [List.take_length] at htk
      have hres : Hid (pathI s = (b && decide (s.length ≤ 24))) := hid_intro (by
        cases b <;> simp [pathI, htk])
      clear hst htk
      cases b
      all_goals
        go_wp2
        go_ret
        refine ⟨?_, rfl⟩
        rw [hid_elim hres]
        first | rfl | (simp; try omega)
end Go.Proofs
