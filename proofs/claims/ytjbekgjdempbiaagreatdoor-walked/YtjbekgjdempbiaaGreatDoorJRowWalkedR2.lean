import Derived.Test.YtjbekgjdempbiaaGreatDoorJRowWalkedR1
/-
  The rows' closed facts, of the program alone, and Walked's.
-/
namespace Go.Proofs.YtjbekgjdempbiaaGreatDoor
open Go.ChangeShapes Go.WideShapes Go.ChangeAt Go.RowKit Go.Proofs

set_option maxRecDepth 100000 in
theorem fLift : (Rows.walkedRow.lifted == Tryz.prog.liftsFinal) = true := by kernel_rfl
set_option maxRecDepth 100000 in
theorem fMake : (Tryz.prog.make == some Rows.walkedRow.make) = true := by kernel_rfl
set_option maxRecDepth 100000 in
theorem fPlace : (Rows.walkedRow.inPlace == Tryz.prog.inPlace 9) = true := by kernel_rfl
end Go.Proofs.YtjbekgjdempbiaaGreatDoor
