import Derived.Test.YtjbekgjdempbiaaGreatDoorJLawR
/-
  Leased: the card's closed facts.
-/
namespace Go.Proofs.YtjbekgjdempbiaaGreatDoor
open Go.ChangeShapes Go.WideShapes Go.ChangeAt Go.RowKit Go.Proofs

set_option maxRecDepth 100000 in
theorem cWf : OpenClaim.wfByText (OpenSpec.ofChange Rows.leasedSpec) Rows.leasedRow = true := by kernel_rfl
set_option maxRecDepth 100000 in
theorem cMain : Tryz.prog.mainIs = some (Rows.leasedCard.stood.harness.1, Rows.leasedCard.stood.harness.2.toList) := by kernel_rfl
set_option maxRecDepth 100000 in
theorem cGoes : false = Rows.leasedRow.goesBy Tryz.prog := by kernel_rfl
end Go.Proofs.YtjbekgjdempbiaaGreatDoor
