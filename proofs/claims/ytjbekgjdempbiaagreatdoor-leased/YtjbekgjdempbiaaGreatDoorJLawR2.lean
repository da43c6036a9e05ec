import Derived.Test.YtjbekgjdempbiaaGreatDoorJLawR1
/-
  The rows' closed facts, of the program alone, and Leased's.
-/
namespace Go.Proofs.YtjbekgjdempbiaaGreatDoor
open Go.ChangeShapes Go.WideShapes Go.ChangeAt Go.RowKit Go.Proofs

set_option maxRecDepth 100000 in
theorem fLift : (Rows.leasedRow.lifted == Tryz.prog.liftsFinal) = true := by kernel_rfl
set_option maxRecDepth 100000 in
theorem fMake : (Tryz.prog.make == some Rows.leasedRow.make) = true := by kernel_rfl
set_option maxRecDepth 100000 in
theorem fPlace : (Rows.leasedRow.inPlace == Tryz.prog.inPlace 3) = true := by kernel_rfl
end Go.Proofs.YtjbekgjdempbiaaGreatDoor
