import Derived.Test.YthifclklnopkfaaGreatDoorRangeO
import Derived.Stop.RegionWithIn
/-
  A region that draws its order, in a round of a loop over an iterator: it goes as outside every round. No dump.
-/
namespace Go.Proofs
open Go.RowKit Go.Sort

def noDefer (ops : Array Oper) : Bool := ops.all fun o => match o.op with | .defer _ => false | _ => true
theorem noDefer_spec {ops : Array Oper} (h : noDefer ops = true) {i : Nat} {o : Oper} (ho : ops[i]? = some o) : ∀ c, o.op ≠ .defer c := fun c hc => by
  obtain ⟨hi, he⟩ := Array.getElem?_eq_some_iff.1 ho
  have := (Array.all_eq_true.1 h) i hi
  rw [he, hc] at this
  cases this
section
variable {n : Nat} {P : Program} {md : Region.Mode} {ops : Array Oper} {Q : Exit → Act → World → Prop}
theorem oper_inRound (l : Nat) {o : Oper} (hd : ∀ c, o.op ≠ .defer c) {a : Act} {w : World} {K : Act → World → Prop} (h : o.wpIn Fence.wide n P a w K Q) : o.wpIn (Fence.wide.inRound l) n P a w K Q := by
  unfold Oper.wpIn at h ⊢
  rw [Oper.semAt_eq _ _ _ hd] at h ⊢
  exact h
theorem wpAnyIn_inRound (l : Nat) (hd : noDefer ops = true) : ∀ (fuel : Nat) (listed : Array Bool) (a : Act) (w : World), wpAnyIn Fence.wide n P md ops Q fuel listed a w → wpAnyIn (Fence.wide.inRound l) n P md ops Q fuel listed a w
  | 0, _, _, _, h => h
  | fuel + 1, listed, a, w, h => by
    refine ⟨h.1, fun i hi => ?_⟩
    have hs := h.2 i hi
    unfold wpOpIn at hs ⊢
    cases ho : ops[i]? with
    | none => rw [ho] at hs; exact wpAnyIn_inRound l hd fuel _ _ _ hs
    | some o =>
      rw [ho] at hs
      simp only at hs ⊢
      split
      · rename_i hw
        rw [if_pos hw] at hs
        exact oper_inRound l (noDefer_spec hd ho) (Oper.wpIn_mono (fun a w => wpAnyIn_inRound l hd fuel _ a w) hs)
      · rename_i hw
        rw [if_neg hw] at hs
        exact ⟨hs.1, wpAnyIn_inRound l hd fuel _ _ _ hs.2⟩
end
end Go.Proofs
