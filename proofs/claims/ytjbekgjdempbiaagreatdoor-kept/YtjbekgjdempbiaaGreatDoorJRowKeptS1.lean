import Derived.Test.YtjbekgjdempbiaaGreatDoorJRowKeptR
set_option maxRecDepth 100000
set_option maxHeartbeats 8000000
namespace Go.Proofs.YtjbekgjdempbiaaGreatDoor
open Go.ChangeShapes Go.WideShapes Go.ChangeAt Go.RowKit Go.Proofs
theorem cWf:OpenClaim.wfByText (OpenSpec.ofChange Rows.keptSpec) Rows.keptRow=true:=by kernel_rfl
theorem cMain:Tryz.prog.mainIs=some (Rows.keptCard.stood.harness.1,Rows.keptCard.stood.harness.2.toList):=by kernel_rfl
theorem cGoes:false=Rows.keptRow.goesBy Tryz.prog:=by kernel_rfl
end Go.Proofs.YtjbekgjdempbiaaGreatDoor
