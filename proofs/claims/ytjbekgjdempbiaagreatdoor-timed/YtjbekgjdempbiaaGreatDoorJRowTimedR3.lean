import Derived.Test.YtjbekgjdempbiaaGreatDoorJRowTimedR2
set_option maxRecDepth 100000
set_option maxHeartbeats 8000000
namespace Go.Proofs.YtjbekgjdempbiaaGreatDoor
open Go.ChangeShapes Go.WideShapes Go.ChangeAt Go.RowKit Go.Proofs
theorem fUnfol:(Rows.timedRow.unfollowed==Tryz.prog.unfollowed 8)=true:=by kernel_rfl
theorem fRecur:(Rows.timedRow.recurses==Tryz.prog.recurses 8)=true:=by kernel_rfl
theorem fNamed:(Rows.timedRow.named==Tryz.prog.varsNamed 8)=true:=by kernel_rfl
end Go.Proofs.YtjbekgjdempbiaaGreatDoor
