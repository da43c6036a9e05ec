import Derived.Test.YtjbekgjdempbiaaGreatDoorJRowPatientR2
set_option maxRecDepth 100000
set_option maxHeartbeats 8000000
namespace Go.Proofs.YtjbekgjdempbiaaGreatDoor
open Go.ChangeShapes Go.WideShapes Go.ChangeAt Go.RowKit Go.Proofs
theorem fUnfol:(Rows.patientRow.unfollowed==Tryz.prog.unfollowed 11)=true:=by kernel_rfl
theorem fRecur:(Rows.patientRow.recurses==Tryz.prog.recurses 11)=true:=by kernel_rfl
theorem fNamed:(Rows.patientRow.named==Tryz.prog.varsNamed 11)=true:=by kernel_rfl
end Go.Proofs.YtjbekgjdempbiaaGreatDoor
