import Derived.Test.YtjbekgjdempbiaaGreatDoorJRowBelowR2
set_option maxRecDepth 100000
set_option maxHeartbeats 8000000
namespace Go.Proofs.YtjbekgjdempbiaaGreatDoor
open Go.ChangeShapes Go.WideShapes Go.ChangeAt Go.RowKit Go.Proofs
theorem fUnfol:(Rows.belowRow.unfollowed==Tryz.prog.unfollowed 12)=true:=by kernel_rfl
theorem fRecur:(Rows.belowRow.recurses==Tryz.prog.recurses 12)=true:=by kernel_rfl
theorem fNamed:(Rows.belowRow.named==Tryz.prog.varsNamed 12)=true:=by kernel_rfl
end Go.Proofs.YtjbekgjdempbiaaGreatDoor
