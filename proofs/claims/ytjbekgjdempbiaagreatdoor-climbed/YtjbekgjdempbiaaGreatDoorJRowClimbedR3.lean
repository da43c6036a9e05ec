import Derived.Test.YtjbekgjdempbiaaGreatDoorJRowClimbedR2
set_option maxRecDepth 100000
set_option maxHeartbeats 8000000
namespace Go.Proofs.YtjbekgjdempbiaaGreatDoor
open Go.ChangeShapes Go.WideShapes Go.ChangeAt Go.RowKit Go.Proofs
theorem fUnfol:(Rows.climbedRow.unfollowed==Tryz.prog.unfollowed 10)=true:=by kernel_rfl
theorem fRecur:(Rows.climbedRow.recurses==Tryz.prog.recurses 10)=true:=by kernel_rfl
theorem fNamed:(Rows.climbedRow.named==Tryz.prog.varsNamed 10)=true:=by kernel_rfl
end Go.Proofs.YtjbekgjdempbiaaGreatDoor
