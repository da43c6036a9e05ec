import Derived.Test.YtjbekgjdempbiaaGreatDoorJRowKeptR1
set_option maxRecDepth 100000
set_option maxHeartbeats 8000000
namespace Go.Proofs.YtjbekgjdempbiaaGreatDoor
open Go.ChangeShapes Go.WideShapes Go.ChangeAt Go.RowKit Go.Proofs
theorem fLift:(Rows.keptRow.lifted==Tryz.prog.liftsFinal)=true:=by kernel_rfl
theorem fMake:(Tryz.prog.make==some Rows.keptRow.make)=true:=by kernel_rfl
theorem Xu6:(Rows.keptRow.inPlace==Tryz.prog.inPlace 5)=true:=by kernel_rfl
end Go.Proofs.YtjbekgjdempbiaaGreatDoor
