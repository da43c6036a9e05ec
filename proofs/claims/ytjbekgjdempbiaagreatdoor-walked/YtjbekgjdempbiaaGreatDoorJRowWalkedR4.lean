import Derived.Test.YtjbekgjdempbiaaGreatDoorJRowWalkedR3
/-
  Walked's closed facts, together.
-/
namespace Go.Proofs.YtjbekgjdempbiaaGreatDoor
open Go.ChangeShapes Go.WideShapes Go.ChangeAt Go.RowKit Go.Proofs

theorem and_tt {a b : Bool} (ha : a = true) (hb : b = true) : (a && b) = true := by rw [ha, hb]; rfl
set_option maxRecDepth 100000 in
theorem closedF : joinedFacts Tryz.prog 9 Tryz.f9 (OpenSpec.ofChange Rows.walkedSpec).bare Rows.walkedRow = true :=
  and_tt (and_tt (and_tt (and_tt (and_tt (and_tt (and_tt (and_tt (and_tt (and_tt (and_tt (and_tt (and_tt (and_tt (and_tt (and_tt (and_tt (and_tt (and_tt (and_tt (and_tt (and_tt (and_tt (and_tt (and_tt (and_tt (and_tt (and_tt (and_tt (and_tt (and_tt
    (by kernel_rfl) laidOut) fMaps)
    (by kernel_rfl)) (by kernel_rfl))
    (by kernel_rfl)) (by kernel_rfl)) (by kernel_rfl)) (by kernel_rfl))
    fPlace) fUnfol) fRecur) fNamed)
    (by kernel_rfl)) (by kernel_rfl)) (by kernel_rfl))
    (by kernel_rfl)) (by kernel_rfl))
    (by kernel_rfl)) (by kernel_rfl)) (by kernel_rfl)) (by kernel_rfl)) (by kernel_rfl)) (by kernel_rfl)) fHeard) fEnter) fLift) fMake) (by kernel_rfl)) (by kernel_rfl))
    (by kernel_rfl)) (by kernel_rfl)
end Go.Proofs.YtjbekgjdempbiaaGreatDoor
