import Derived.Test.YtjbekgjdempbiaaGreatDoorJRowWalkedR
/-
  Walked: the card's closed facts.
-/
namespace Go.Proofs.YtjbekgjdempbiaaGreatDoor
open Go.ChangeShapes Go.WideShapes Go.ChangeAt Go.RowKit Go.Proofs

set_option maxRecDepth 100000 in
theorem cWf : OpenClaim.wfByText (OpenSpec.ofChange Rows.walkedSpec) Rows.walkedRow = true := by kernel_rfl
set_option maxRecDepth 100000 in
theorem cMain : Tryz.prog.mainIs = some (Rows.walkedCard.stood.harness.1, Rows.walkedCard.stood.harness.2.toList) := by kernel_rfl
set_option maxRecDepth 100000 in
theorem cGoes : false = Rows.walkedRow.goesBy Tryz.prog := by kernel_rfl
end Go.Proofs.YtjbekgjdempbiaaGreatDoor
