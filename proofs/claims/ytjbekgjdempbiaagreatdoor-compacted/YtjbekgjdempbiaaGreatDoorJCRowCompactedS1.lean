import Derived.Test.YtjbekgjdempbiaaGreatDoorJCRowCompactedR
set_option maxRecDepth 100000
set_option maxHeartbeats 8000000
namespace Go.Proofs.YtjbekgjdempbiaaGreatDoor
open Go.ChangeShapes Go.WideShapes Go.ChangeAt Go.RowKit Go.Proofs
theorem cWf:OpenClaim.wfByText (OpenSpec.ofChange Rows.compactedSpec) Rows.compactedRow=true:=by kernel_rfl
theorem cMain:Tryz.prog.mainIs=some (Rows.compactedCard.stood.harness.1,Rows.compactedCard.stood.harness.2.toList):=by kernel_rfl
theorem cGoes:false=Rows.compactedRow.goesBy Tryz.prog:=by kernel_rfl
end Go.Proofs.YtjbekgjdempbiaaGreatDoor
