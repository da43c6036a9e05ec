import Derived.Test.YthifclklnopkfaaGreatDoorCodeC
import Derived.Test.YthifclklnopkfaaGreatDoorCodeF
/-
  What is live on both sides.
-/
namespace Go.Proofs
open Go.RowKit Go.Sort Go.Lib Go.Shelf Go.Maps

section
variable {vb mt ml : Nat} {vx : VX} {tm tn ln : Int} {tks : List TokE} {lks : List LeaE} {L : List ThingD}
theorem state_tok {tm : Int} {t : TokE} (h : (thT t).state tm = 1) : t.pd = false := by
  cases hp : t.pd
  · rfl
  · simp [ThingD.state, thT, hp] at h
theorem state_lea {tm : Int} {l : LeaE} : (thL l).state tm = 1 ↔ (!l.pd && decide (tm < l.at_)) = true := by
  cases hp : l.pd
  · simp [ThingD.state, thL, hp]
  · simp [ThingD.state, thL, hp]

theorem Tryz.tokLive (w : World) (hV : Tryz.VaultAt w vb mt ml vx tm tn ln tks lks) (hl : Rel tks lks L) (id : List UInt8) :
    Calls Tryz.prog 90 #[.pointer (some ⟨vb, 0, none⟩), nmV (parseN id)] w fun e w' => e = .returned (.bool (decide (0 ≤ liveI tm id true L))) ∧ Below w.heap.size w w' := by
  rcases liveI_cases tm id true L with ⟨i, t, ht, hid, htk, hst, hli⟩ | hli
  · have hm := List.mem_of_getElem? ht
    obtain ⟨a, ha, rfl⟩ := hl.tok_mem hm htk
    have hp := liveI_hit (L := L) hid htk (hl.num hV.ok hm) hli
    rw [hp, hli]
    have h := Tryz.isLive_hit vb mt ml vx tm tn ln tks lks w hV a ha
    rw [state_tok hst] at h
    refine h.mono ?_
    rintro e w' ⟨rfl, hb⟩
    exact ⟨by simp, hb⟩
  · rw [hli]
    have hno : ∀ a ∈ tks, a.pd = false → parseN id ≠ (1, (a.n : Int)) := fun a ha hp => hl.live_miss hV.ok hli (hl.mem_tok ha) rfl (by simp [ThingD.state, thT, hp])
    by_cases he : ∃ a ∈ tks, parseN id = (1, (a.n : Int))
    · obtain ⟨a, ha, hp⟩ := he
      have hpd : a.pd = true := by
        cases h : a.pd
        · exact absurd hp (hno a ha h)
        · rfl
      rw [hp]
      have h := Tryz.isLive_hit vb mt ml vx tm tn ln tks lks w hV a ha
      rw [hpd] at h
      refine h.mono ?_
      rintro e w' ⟨rfl, hb⟩
      exact ⟨by simp, hb⟩
    · have h := Tryz.isLive_miss vb mt ml vx tm tn ln tks lks w hV (parseN id) (parseN_wf id) (fun a ha e => he ⟨a, ha, e⟩)
      refine h.mono ?_
      rintro e w' ⟨rfl, hb⟩
      exact ⟨by simp, hb⟩
theorem leaLive_hit (ok : ListsOk tks lks) (hl : Rel tks lks L) {id : List UInt8} {i : Nat} {t : ThingD} (ht : L[i]? = some t) (hid : t.id = id) (htk : t.token = false) (hst : t.state tm = 1) (hli : liveI tm id false L = i) :
    ∃ (k : Nat) (l : LeaE), lks[k]? = some l ∧ thL l = t ∧ parseN id = (2, (l.n : Int)) ∧ (!l.pd && decide (tm < l.at_)) = true ∧ ∀ a : Int, Rel tks (lks.set k { l with at_ := a }) (L.set i { t with at_ := a }) := by
  obtain ⟨k, l, hk, rfl, hr⟩ := hl.lea_at ht htk
  exact ⟨k, l, hk, rfl, liveI_hit (L := L) hid htk (hl.num ok (List.mem_of_getElem? ht)) hli, state_lea.1 hst, hr⟩
theorem Tryz.leaLive_miss (w : World) (hV : Tryz.VaultAt w vb mt ml vx tm tn ln tks lks) (hl : Rel tks lks L) (id : List UInt8) (hid : id.length ≤ 1000000) (hli : liveI tm id false L = -1) :
    Calls Tryz.prog 80 #[.pointer (some ⟨vb, 0, none⟩), .string ⟨id.toArray⟩] w fun e w' => e = .returned (.pointer none) ∧ Below w.heap.size w w' := by
  have hno : ∀ a ∈ lks, (!a.pd && decide (tm < a.at_)) = true → parseN id ≠ (2, (a.n : Int)) := fun a ha hp => hl.live_miss hV.ok hli (hl.mem_lea ha) rfl (state_lea.2 hp)
  by_cases he : ∃ a ∈ lks, parseN id = (2, (a.n : Int))
  · obtain ⟨a, ha, hp⟩ := he
    have h := Tryz.liveLease_hit vb mt ml vx tm tn ln tks lks w hV id hid a ha hp
    rw [if_neg (fun e => hno a ha e hp)] at h
    exact h
  · exact Tryz.liveLease_miss vb mt ml vx tm tn ln tks lks w hV id hid (fun a ha e => he ⟨a, ha, e⟩)
end
end Go.Proofs
