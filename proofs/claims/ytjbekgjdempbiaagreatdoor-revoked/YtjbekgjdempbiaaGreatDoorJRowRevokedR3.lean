import Derived.Test.YtjbekgjdempbiaaGreatDoorJRowRevokedR2
set_option maxRecDepth 100000
set_option maxHeartbeats 8000000
namespace Go.Proofs.YtjbekgjdempbiaaGreatDoor
open Go.ChangeShapes Go.WideShapes Go.ChangeAt Go.RowKit Go.Proofs
theorem fUnfol:(Rows.revokedRow.unfollowed==Tryz.prog.unfollowed 4)=true:=by kernel_rfl
theorem fRecur:(Rows.revokedRow.recurses==Tryz.prog.recurses 4)=true:=by kernel_rfl
theorem fNamed:(Rows.revokedRow.named==Tryz.prog.varsNamed 4)=true:=by kernel_rfl
end Go.Proofs.YtjbekgjdempbiaaGreatDoor
