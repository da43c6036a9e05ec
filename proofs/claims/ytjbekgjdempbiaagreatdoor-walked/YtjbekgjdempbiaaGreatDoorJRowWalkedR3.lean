import Derived.Test.YtjbekgjdempbiaaGreatDoorJRowWalkedR2
/-
  Walked's closed facts.
-/
namespace Go.Proofs.YtjbekgjdempbiaaGreatDoor
open Go.ChangeShapes Go.WideShapes Go.ChangeAt Go.RowKit Go.Proofs

set_option maxRecDepth 100000 in
theorem fUnfol : (Rows.walkedRow.unfollowed == Tryz.prog.unfollowed 9) = true := by kernel_rfl
set_option maxRecDepth 100000 in
theorem fRecur : (Rows.walkedRow.recurses == Tryz.prog.recurses 9) = true := by kernel_rfl
set_option maxRecDepth 100000 in
theorem fNamed : (Rows.walkedRow.named == Tryz.prog.varsNamed 9) = true := by kernel_rfl
end Go.Proofs.YtjbekgjdempbiaaGreatDoor
