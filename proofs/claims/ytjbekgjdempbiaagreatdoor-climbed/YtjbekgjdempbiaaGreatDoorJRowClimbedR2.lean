import Derived.Test.YtjbekgjdempbiaaGreatDoorJRowClimbedR1
set_option maxRecDepth 100000
set_option maxHeartbeats 8000000
namespace Go.Proofs.YtjbekgjdempbiaaGreatDoor
open Go.ChangeShapes Go.WideShapes Go.ChangeAt Go.RowKit Go.Proofs
theorem fLift:(Rows.climbedRow.lifted==Tryz.prog.liftsFinal)=true:=by kernel_rfl
theorem fMake:(Tryz.prog.make==some Rows.climbedRow.make)=true:=by kernel_rfl
theorem fPlace:(Rows.climbedRow.inPlace==Tryz.prog.inPlace 10)=true:=by kernel_rfl
end Go.Proofs.YtjbekgjdempbiaaGreatDoor
