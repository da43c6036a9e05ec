import Derived.Test.YtjbekgjdempbiaaGreatDoorJRowKeptR2
set_option maxRecDepth 100000
set_option maxHeartbeats 8000000
namespace Go.Proofs.YtjbekgjdempbiaaGreatDoor
open Go.ChangeShapes Go.WideShapes Go.ChangeAt Go.RowKit Go.Proofs
theorem Xvo:(Rows.keptRow.unfollowed==Tryz.prog.unfollowed 5)=true:=by kernel_rfl
theorem Xvz:(Rows.keptRow.recurses==Tryz.prog.recurses 5)=true:=by kernel_rfl
theorem Xvf:(Rows.keptRow.named==Tryz.prog.varsNamed 5)=true:=by kernel_rfl
end Go.Proofs.YtjbekgjdempbiaaGreatDoor
