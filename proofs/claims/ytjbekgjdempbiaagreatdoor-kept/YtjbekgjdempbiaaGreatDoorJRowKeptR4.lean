import Derived.Test.YtjbekgjdempbiaaGreatDoorJRowKeptR3
set_option maxRecDepth 100000
set_option maxHeartbeats 8000000
namespace Go.Proofs.YtjbekgjdempbiaaGreatDoor
open Go.ChangeShapes Go.WideShapes Go.ChangeAt Go.RowKit Go.Proofs
theorem Yl {a b:Bool} (ha:a=true) (hb:b=true):(a&&b)=true:=by rw [ha,hb];rfl
theorem Xub:joinedFacts Tryz.prog 5 Tryz.f5 (OpenSpec.ofChange Rows.keptSpec).bare Rows.keptRow=true:=
 Yl (Yl (Yl (Yl (Yl (Yl (Yl (Yl (Yl (Yl (Yl (Yl (Yl (Yl (Yl (Yl (Yl (Yl (Yl (Yl (Yl (Yl (Yl (Yl (Yl (Yl (Yl (Yl (Yl (Yl (Yl
  (by kernel_rfl) laidOut) fMaps)
  (by kernel_rfl)) (by kernel_rfl))
  (by kernel_rfl)) (by kernel_rfl)) (by kernel_rfl)) (by kernel_rfl))
  Xu6) Xvo) Xvz) Xvf)
  (by kernel_rfl)) (by kernel_rfl)) (by kernel_rfl))
  (by kernel_rfl)) (by kernel_rfl))
  (by kernel_rfl)) (by kernel_rfl)) (by kernel_rfl)) (by kernel_rfl)) (by kernel_rfl)) (by kernel_rfl)) Xv2) Xu1) fLift) fMake) (by kernel_rfl)) (by kernel_rfl))
  (by kernel_rfl)) (by kernel_rfl)
end Go.Proofs.YtjbekgjdempbiaaGreatDoor
