import Derived.Test.YtjbekgjdempbiaaGreatDoorJRowClimbedR3
set_option maxRecDepth 100000
set_option maxHeartbeats 8000000
namespace Go.Proofs.YtjbekgjdempbiaaGreatDoor
open Go.ChangeShapes Go.WideShapes Go.ChangeAt Go.RowKit Go.Proofs
theorem and_tt {a b:Bool} (ha:a=true) (hb:b=true):(a&&b)=true:=by rw [ha,hb];rfl
theorem closedF:joinedFacts Tryz.prog 10 Tryz.f10 (OpenSpec.ofChange Rows.climbedSpec).bare Rows.climbedRow=true:=
 and_tt (and_tt (and_tt (and_tt (and_tt (and_tt (and_tt (and_tt (and_tt (and_tt (and_tt (and_tt (and_tt (and_tt (and_tt (and_tt (and_tt (and_tt (and_tt (and_tt (and_tt (and_tt (and_tt (and_tt (and_tt (and_tt (and_tt (and_tt (and_tt (and_tt (and_tt
  (by kernel_rfl) laidOut) fMaps)
  (by kernel_rfl)) (by kernel_rfl))
  (by kernel_rfl)) (by kernel_rfl)) (by kernel_rfl)) (by kernel_rfl))
  fPlace) fUnfol) fRecur) fNamed)
  (by kernel_rfl)) (by kernel_rfl)) (by kernel_rfl))
  (by kernel_rfl)) (by kernel_rfl))
  (by kernel_rfl)) (by kernel_rfl)) (by kernel_rfl)) (by kernel_rfl)) (by kernel_rfl)) (by kernel_rfl)) fHeard) fEnter) fLift) fMake) (by kernel_rfl)) (by kernel_rfl))
  (by kernel_rfl)) (by kernel_rfl)
end Go.Proofs.YtjbekgjdempbiaaGreatDoor
