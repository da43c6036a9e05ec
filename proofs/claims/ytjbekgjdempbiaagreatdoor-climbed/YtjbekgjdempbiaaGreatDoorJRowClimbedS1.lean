import Derived.Test.YtjbekgjdempbiaaGreatDoorJRowClimbedR
set_option maxRecDepth 100000
set_option maxHeartbeats 8000000
namespace Go.Proofs.YtjbekgjdempbiaaGreatDoor
open Go.ChangeShapes Go.WideShapes Go.ChangeAt Go.RowKit Go.Proofs
theorem cWf:OpenClaim.wfByText (OpenSpec.ofChange Rows.climbedSpec) Rows.climbedRow=true:=by kernel_rfl
theorem cMain:Tryz.prog.mainIs=some (Rows.climbedCard.stood.harness.1,Rows.climbedCard.stood.harness.2.toList):=by kernel_rfl
theorem cGoes:false=Rows.climbedRow.goesBy Tryz.prog:=by kernel_rfl
end Go.Proofs.YtjbekgjdempbiaaGreatDoor
