import Derived.Test.YthifclklnopkfaaGreatDoorRefF
import Derived.Laws.RangeAny
/-
  paths.inName, paths.Valid.
-/
namespace Go.Proofs
open Go.RowKit Go.Sort Go.Lib Go.Shelf

theorem ret_bool {a b : Bool} (h : a = b) : Ending.returned (.bool a) = .returned (.bool b) := by rw [h]
def nameR (r : Int) : Bool := decide ((97 ≤ r ∧ r ≤ 122) ∨ (48 ≤ r ∧ r ≤ 57) ∨ r = 45)
set_option maxHeartbeats 1000000 in
theorem Tryz.inName (r : Int) (w : World) : Calls Tryz.prog 131 #[.int .i32 r] w fun e w' => e = .returned (.bool (nameR r)) ∧ w' = w := by
  have hr : Hid (nameR r = decide ((97 ≤ r ∧ r ≤ 122) ∨ (48 ≤ r ∧ r ≤ 57) ∨ r = 45)) := hid_intro rfl
  generalize nameR r = b at *
  go_enter Tryz.func131, Tryz.ntmps131
  go_wp2
  all_goals
    go_ret
    refine ⟨?_, rfl⟩
    rw [hid_elim hr]
    refine ret_bool ?_
    rw [Bool.eq_iff_iff]
    simp
    try omega

set_option maxRecDepth 100000 in
set_option maxHeartbeats 4000000 in
theorem Tryz.valid (s : List UInt8) (w : World) (hs : s.length ≤ 1000000) :
    Calls Tryz.prog 91 #[.string ⟨s.toArray⟩] w fun e w' => e = .returned (.bool (pathI s)) ∧ Below w.heap.size w w' := by
  have hI := fun r W => Tryz.inName r W
  by_cases h24 : 24 < s.length
  · have hr : Hid (pathI s = false) := hid_intro (by simp [pathI]; omega)
    go_enter Tryz.func91, Tryz.ntmps91
    go_wp2
    go_ret
    exact ⟨by rw [hid_elim hr]; rfl, Below.refl _ _⟩
  · go_enter Tryz.func91, Tryz.ntmps91
    go_wp2
    go_loopw [3] (fun pv wr => ∃ (k : Nat) (b : Bool) (z : Int), k ≤ s.length ∧ wr = w.iter ⟨s.toArray⟩ k ∧ pv = .int .i32 z ∧ Hid ((z = 47 ↔ b = false) ∧ (s.take k).foldl pstep (some false) = some b)) (fun _ wr => s.length - wr.iterPos w.heap.size)
    case atStart => exact ⟨0, false, 47, Nat.zero_le _, rfl, rfl, hid_intro ⟨by simp, rfl⟩⟩
    case round =>
      obtain ⟨k, b, z, hk, rfl, rfl, hst⟩ := hrel
      by_cases hkl : k < s.length
      · obtain ⟨c, hc⟩ : ∃ c, s[k]? = some c := ⟨s[k], by simp [hkl]⟩
        have hck : ((⟨s.toArray⟩ : ByteArray)[k]'(by simpa [ByteArray.size] using hkl)) = c := by
          have h1 : s[k]'hkl = c := by simpa [hkl] using hc
          rw [← h1]; rfl
        have HP := hid_intro (fun o => pstep_take (o := o) hc)
        have hks : k < (⟨s.toArray⟩ : ByteArray).size := by simpa [ByteArray.size] using hkl
        by_cases h128 : c.toNat < 128
        · have hnx := fun ty => run_next_ascii (P := Tryz.prog) w ⟨s.toArray⟩ k ty hks (by rw [hck]; exact h128)
          simp only [hck] at hnx
          obtain ⟨r, hr⟩ : ∃ r : Int, (c.toNat : Int) = r := ⟨_, rfl⟩
          rw [hr] at hnx
          have hR := fun W => hI r W
          have Hr := hid_intro hr
          clear hr hI
          by_cases h47 : r = 47
          · subst h47
            by_cases hz : z = 47
            · subst hz
              have hres : Hid (pathI s = false) := hid_intro (by
                obtain ⟨e1, e2⟩ := hid_elim hst
                have hb : b = false := e1.1 rfl
                refine pathI_cut (k := k + 1) ?_
                rw [hid_elim HP _ e2, pstep_bar (by have := hid_elim Hr; omega), hb]
                rfl)
              clear hst
              go_wp2_with (go_at_call 131; fail)
              go_ret
              exact ⟨by rw [hid_elim hres]; rfl, (Below.refl _ w).alloc (Nat.le_refl _) _⟩
            · have hz' : (z == 47) = false := by simpa using hz
              have hst' : Hid ((47 : Int) = 47 ↔ false = false) := hid_intro (by simp)
              have hnew : Hid ((s.take (k + 1)).foldl pstep (some false) = some false) := hid_intro (by
                obtain ⟨e1, e2⟩ := hid_elim hst
                have hb : b = true := by cases b; exact absurd (e1.2 rfl) hz; rfl
                rw [hid_elim HP _ e2, pstep_bar (by have := hid_elim Hr; omega), hb]
                rfl)
              clear hst hz
              go_wp2_with (go_at_call 131; fail)
              go_roundw
              case rel => exact ⟨k + 1, false, 47, by omega, rfl, rfl, hid_intro ⟨by simp, hid_elim hnew⟩⟩
              case measure => simp; omega
          · have h47' : (r == 47) = false := by simpa using h47
            obtain ⟨nb, hnb⟩ : ∃ nb, nameR r = nb := ⟨_, rfl⟩
            rw [hnb] at hR
            have Hnb := hid_intro hnb
            have H47 := hid_intro h47
            clear hnb h47
            cases nb
            · have hres : Hid (pathI s = false) := hid_intro (by
                obtain ⟨e1, e2⟩ := hid_elim hst
                refine pathI_cut (k := k + 1) ?_
                rw [hid_elim HP _ e2]
                have h1 := hid_elim Hnb
                have h2 := hid_elim H47
                have h3 := hid_elim Hr
                simp only [nameR, decide_eq_false_iff_not] at h1
                exact pstep_bad (by omega))
              by_cases hz : z = 47
              · subst hz
                clear hst
                go_wp2_with (go_at_call 131; refine (hR _).mono ?_; rintro e w1 ⟨rfl, rfl⟩)
                go_ret
                exact ⟨by rw [hid_elim hres]; rfl, (Below.refl _ w).alloc (Nat.le_refl _) _⟩
              · have hz' : (z == 47) = false := by simpa using hz
                clear hst hz
                go_wp2_with (go_at_call 131; refine (hR _).mono ?_; rintro e w1 ⟨rfl, rfl⟩)
                go_ret
                exact ⟨by rw [hid_elim hres]; rfl, (Below.refl _ w).alloc (Nat.le_refl _) _⟩
            · have hnew : Hid ((r = 47 ↔ true = false) ∧ (s.take (k + 1)).foldl pstep (some false) = some true) := hid_intro (by
                obtain ⟨e1, e2⟩ := hid_elim hst
                have h1 := hid_elim Hnb
                have h2 := hid_elim H47
                have h3 := hid_elim Hr
                simp only [nameR, decide_eq_true_eq] at h1
                exact ⟨by simp [h2], by rw [hid_elim HP _ e2]; exact pstep_good (by omega)⟩)
              by_cases hz : z = 47
              · subst hz
                clear hst
                go_wp2_with (go_at_call 131; refine (hR _).mono ?_; rintro e w1 ⟨rfl, rfl⟩)
                go_roundw
                case rel => exact ⟨k + 1, true, r, by omega, rfl, rfl, hnew⟩
                case measure => simp; omega
              · have hz' : (z == 47) = false := by simpa using hz
                clear hst hz
                go_wp2_with (go_at_call 131; refine (hR _).mono ?_; rintro e w1 ⟨rfl, rfl⟩)
                go_roundw
                case rel => exact ⟨k + 1, true, r, by omega, rfl, rfl, hnew⟩
                case measure => simp; omega
        · have hnx := fun ty => run_next_any (P := Tryz.prog) w ⟨s.toArray⟩ k ty hks
          obtain ⟨hd, -⟩ := decode_high ⟨s.toArray⟩ k hks (by rw [hck]; omega)
          obtain ⟨r, hr⟩ : ∃ r : Int, ((Utf8.decode ⟨s.toArray⟩ k).1 : Int) = r := ⟨_, rfl⟩
          rw [hr] at hnx
          have hr128 : 128 ≤ r := by omega
          have hR := fun W => hI r W
          have hnb : nameR r = false := by simp only [nameR, decide_eq_false_iff_not]; omega
          rw [hnb] at hR
          have h47' : (r == 47) = false := by simp; omega
          have hres : Hid (pathI s = false) := hid_intro (by
            obtain ⟨e1, e2⟩ := hid_elim hst
            refine pathI_cut (k := k + 1) ?_
            rw [hid_elim HP _ e2]
            exact pstep_bad (by omega))
          generalize (Utf8.decode ⟨s.toArray⟩ k).2 = wd at *
          have h47p : ¬ r = 47 := by omega
          clear hr hI hd hnb hr128
          by_cases hz : z = 47
          · subst hz
            clear hst
            go_wp2_with (go_at_call 131; refine (hR _).mono ?_; rintro e w1 ⟨rfl, rfl⟩)
            go_ret
            exact ⟨by rw [hid_elim hres]; rfl, (Below.refl _ w).alloc (Nat.le_refl _) _⟩
          · have hz' : (z == 47) = false := by simpa using hz
            clear hst hz
            go_wp2_with (go_at_call 131; refine (hR _).mono ?_; rintro e w1 ⟨rfl, rfl⟩)
            go_ret
            exact ⟨by rw [hid_elim hres]; rfl, (Below.refl _ w).alloc (Nat.le_refl _) _⟩
      · obtain rfl : k = s.length := by omega
        have hnx := fun ty => run_next_end (P := Tryz.prog) w ⟨s.toArray⟩ s.length ty (by simp [ByteArray.size])
        have hres : Hid (pathI s = (z != 47)) := hid_intro (by
          obtain ⟨e1, e2⟩ := hid_elim hst
          rw [List.take_length] at e2
          have h24' : s.length ≤ 24 := by omega
          cases b
          · rw [e1.2 rfl]; simp [pathI, e2]
          · have hz : z ≠ 47 := fun e => by have := e1.1 e; cases this
            simp [pathI, e2, h24', hz])
        clear hst
        go_wp2
        go_ret
        exact ⟨by rw [hid_elim hres]; rfl, (Below.refl _ w).alloc (Nat.le_refl _) _⟩
end Go.Proofs
