import Derived.Test.YtjbekgjdempbiaaGreatDoorJRowKeptO
set_option maxRecDepth 100000
set_option maxHeartbeats 8000000
namespace Go.Proofs.YtjbekgjdempbiaaGreatDoor
open Go.ChangeShapes Go.WideShapes Go.ChangeAt Go.RowKit Go.Proofs
theorem fMaps:mapsRowed Tryz.prog=true:=by kernel_rfl
theorem Xv2:Tryz.prog.stopsHeard=true:=by kernel_rfl
theorem Xu1:Tryz.prog.mayEnter=true:=by kernel_rfl
end Go.Proofs.YtjbekgjdempbiaaGreatDoor
