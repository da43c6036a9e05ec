/-
  DERIVED. GIVEN WITH THE SEED: THE CARDS: each row of YtjbekgjdempbiaaGreatDoorRows.lean that lists a variable, with what it lists TIED to the program's text (the seventh form; the later family's looks); each row that meets fmt, with fmt's text TOLD by the authors' own Lean function (tested against real Go, not proved from fmt's source: count such statements apart). THE CARD IS WHAT COUNTS. Prove the row's statement (the work); the ties are given (YtjbekgjdempbiaaGreatDoorTie.lean); close each card by the builder's one call (the guide's Derived/Test/ToyasCard.lean, 'card_holds'). Laid BY PROGRAM, IN A SANDBOX (cutbox-door.mjs). By AI agents, Wed Nov 11 2026. No macro, syntax, notation, axiom, sorry.
-/
import Derived.Test.YtjbekgjdempbiaaGreatDoorRows
import GoSem.ClaimSeven
namespace Go.Proofs.YtjbekgjdempbiaaGreatDoor
namespace Rows

/-- THE TIED CARD OF 'leasekeeperlaw.Leased'. -/
def leasedCard : Claim7 := { stood := { row := leasedRow, standIns := [], harness := (true, "d54bde4bcb6af8fedced8467d1ec724b06ee2a17fe6ee17ab64b818403fe10f7"), looks := true }, kinds := [], alts := [], laidByText := true, laidKinds := [.data, .data, .data, .data, .handle, .sentinel, .sentinel, .pinned], laidTests := true, laidLooks := .later }
def LeasedCardSaid : Prop := Claim7.holds Tryz.pinned (.plain (OpenSpec.ofChange leasedSpec)) leasedCard

/-- THE TIED CARD OF 'leasekeeperlaw.Revoked'. -/
def revokedCard : Claim7 := { stood := { row := revokedRow, standIns := [], harness := (true, "d54bde4bcb6af8fedced8467d1ec724b06ee2a17fe6ee17ab64b818403fe10f7"), looks := true }, kinds := [], alts := [], laidByText := true, laidKinds := [.data, .data, .data, .data, .handle, .sentinel, .sentinel, .pinned], laidTests := true, laidLooks := .later }
def RevokedCardSaid : Prop := Claim7.holds Tryz.pinned (.plain (OpenSpec.ofChange revokedSpec)) revokedCard

/-- THE TIED CARD OF 'leasekeeperlaw.Kept'. -/
def keptCard : Claim7 := { stood := { row := keptRow, standIns := [], harness := (true, "d54bde4bcb6af8fedced8467d1ec724b06ee2a17fe6ee17ab64b818403fe10f7"), looks := true }, kinds := [], alts := [], laidByText := true, laidKinds := [.data, .data, .data, .data, .handle, .sentinel, .sentinel, .pinned], laidTests := true, laidLooks := .later }
def KeptCardSaid : Prop := Claim7.holds Tryz.pinned (.plain (OpenSpec.ofChange keptSpec)) keptCard

/-- THE TIED CARD OF 'leasekeeperlaw.Fallen'. -/
def fallenCard : Claim7 := { stood := { row := fallenRow, standIns := [], harness := (true, "d54bde4bcb6af8fedced8467d1ec724b06ee2a17fe6ee17ab64b818403fe10f7"), looks := true }, kinds := [], alts := [], laidByText := true, laidKinds := [.data, .data, .data, .data, .handle, .sentinel, .sentinel, .pinned], laidTests := true, laidLooks := .later }
def FallenCardSaid : Prop := Claim7.holds Tryz.pinned (.plain (OpenSpec.ofChange fallenSpec)) fallenCard

/-- THE TIED CARD OF 'leasekeeperlaw.All'. -/
def allCard : Claim7 := { stood := { row := allRow, standIns := [], harness := (true, "d54bde4bcb6af8fedced8467d1ec724b06ee2a17fe6ee17ab64b818403fe10f7"), looks := true }, kinds := [], alts := [], laidByText := true, laidKinds := [.data, .data, .data, .data, .handle, .sentinel, .sentinel, .pinned], laidTests := true, laidLooks := .later }
def AllCardSaid : Prop := Claim7.holds Tryz.pinned (.plain (OpenSpec.ofChange allSpec)) allCard

/-- THE TIED CARD OF 'leasekeeperkeep.Timed'. -/
def timedCard : Claim7 := { stood := { row := timedRow, standIns := [], harness := (true, "d54bde4bcb6af8fedced8467d1ec724b06ee2a17fe6ee17ab64b818403fe10f7"), looks := true }, kinds := [], alts := [], laidByText := true, laidKinds := [.data, .data, .data, .data, .handle, .sentinel, .sentinel, .pinned], laidTests := true, laidLooks := .later }
def TimedCardSaid : Prop := Claim7.holds Tryz.pinned (.plain (OpenSpec.ofChange timedSpec)) timedCard

/-- THE TIED CARD OF 'leasekeeperkeep.Walked'. -/
def walkedCard : Claim7 := { stood := { row := walkedRow, standIns := [], harness := (true, "d54bde4bcb6af8fedced8467d1ec724b06ee2a17fe6ee17ab64b818403fe10f7"), looks := true }, kinds := [], alts := [], laidByText := true, laidKinds := [.data, .data, .data, .data, .handle, .sentinel, .sentinel, .pinned], laidTests := true, laidLooks := .later }
def WalkedCardSaid : Prop := Claim7.holds Tryz.pinned (.plain (OpenSpec.ofChange walkedSpec)) walkedCard

/-- THE TIED CARD OF 'leasekeeperkeep.Climbed'. -/
def climbedCard : Claim7 := { stood := { row := climbedRow, standIns := [], harness := (true, "d54bde4bcb6af8fedced8467d1ec724b06ee2a17fe6ee17ab64b818403fe10f7"), looks := true }, kinds := [], alts := [], laidByText := true, laidKinds := [.data, .data, .data, .data, .handle, .sentinel, .sentinel, .pinned], laidTests := true, laidLooks := .later }
def ClimbedCardSaid : Prop := Claim7.holds Tryz.pinned (.plain (OpenSpec.ofChange climbedSpec)) climbedCard

/-- THE TIED CARD OF 'leasekeeperkeep.Patient'. -/
def patientCard : Claim7 := { stood := { row := patientRow, standIns := [], harness := (true, "d54bde4bcb6af8fedced8467d1ec724b06ee2a17fe6ee17ab64b818403fe10f7"), looks := true }, kinds := [], alts := [], laidByText := true, laidKinds := [.data, .data, .data, .data, .handle, .sentinel, .sentinel, .pinned], laidTests := true, laidLooks := .later }
def PatientCardSaid : Prop := Claim7.holds Tryz.pinned (.plain (OpenSpec.ofChange patientSpec)) patientCard

/-- THE TIED CARD OF 'leasekeeperkeep.Below'. -/
def belowCard : Claim7 := { stood := { row := belowRow, standIns := [], harness := (true, "d54bde4bcb6af8fedced8467d1ec724b06ee2a17fe6ee17ab64b818403fe10f7"), looks := true }, kinds := [], alts := [], laidByText := true, laidKinds := [.data, .data, .data, .data, .handle, .sentinel, .sentinel, .pinned], laidTests := true, laidLooks := .later }
def BelowCardSaid : Prop := Claim7.holds Tryz.pinned (.plain (OpenSpec.ofChange belowSpec)) belowCard

/-- THE TIED CARD OF 'leasekeeperkeep.Compacted'. -/
def compactedCard : Claim7 := { stood := { row := compactedRow, standIns := [], harness := (true, "d54bde4bcb6af8fedced8467d1ec724b06ee2a17fe6ee17ab64b818403fe10f7"), looks := true }, kinds := [], alts := [], laidByText := true, laidKinds := [.data, .data, .data, .data, .handle, .sentinel, .sentinel, .pinned], laidTests := true, laidLooks := .later }
def CompactedCardSaid : Prop := Claim7.holds Tryz.pinned (.plain (OpenSpec.ofChange compactedSpec)) compactedCard

/-- THE SECOND FORM's CARD OF 'leasekeeperlaw.Leased'. -/
def leasedUptoCard : Claim7 := { stood := { row := leasedUptoRow, standIns := [], harness := (true, "d54bde4bcb6af8fedced8467d1ec724b06ee2a17fe6ee17ab64b818403fe10f7"), looks := true }, kinds := [], alts := [], laidByText := true, laidKinds := [.data, .data, .data, .data, .handle, .sentinel, .sentinel, .pinned], laidTests := true, laidLooks := .later }
def LeasedUptoCardSaid : Prop := Claim7.holds Tryz.pinned (.plain (OpenSpec.upto leasedSpec)) leasedUptoCard

/-- THE SECOND FORM's CARD OF 'leasekeeperlaw.Revoked'. -/
def revokedUptoCard : Claim7 := { stood := { row := revokedUptoRow, standIns := [], harness := (true, "d54bde4bcb6af8fedced8467d1ec724b06ee2a17fe6ee17ab64b818403fe10f7"), looks := true }, kinds := [], alts := [], laidByText := true, laidKinds := [.data, .data, .data, .data, .handle, .sentinel, .sentinel, .pinned], laidTests := true, laidLooks := .later }
def RevokedUptoCardSaid : Prop := Claim7.holds Tryz.pinned (.plain (OpenSpec.upto revokedSpec)) revokedUptoCard

/-- THE SECOND FORM's CARD OF 'leasekeeperlaw.Kept'. -/
def keptUptoCard : Claim7 := { stood := { row := keptUptoRow, standIns := [], harness := (true, "d54bde4bcb6af8fedced8467d1ec724b06ee2a17fe6ee17ab64b818403fe10f7"), looks := true }, kinds := [], alts := [], laidByText := true, laidKinds := [.data, .data, .data, .data, .handle, .sentinel, .sentinel, .pinned], laidTests := true, laidLooks := .later }
def KeptUptoCardSaid : Prop := Claim7.holds Tryz.pinned (.plain (OpenSpec.upto keptSpec)) keptUptoCard

/-- THE SECOND FORM's CARD OF 'leasekeeperlaw.Fallen'. -/
def fallenUptoCard : Claim7 := { stood := { row := fallenUptoRow, standIns := [], harness := (true, "d54bde4bcb6af8fedced8467d1ec724b06ee2a17fe6ee17ab64b818403fe10f7"), looks := true }, kinds := [], alts := [], laidByText := true, laidKinds := [.data, .data, .data, .data, .handle, .sentinel, .sentinel, .pinned], laidTests := true, laidLooks := .later }
def FallenUptoCardSaid : Prop := Claim7.holds Tryz.pinned (.plain (OpenSpec.upto fallenSpec)) fallenUptoCard

/-- THE SECOND FORM's CARD OF 'leasekeeperlaw.All'. -/
def allUptoCard : Claim7 := { stood := { row := allUptoRow, standIns := [], harness := (true, "d54bde4bcb6af8fedced8467d1ec724b06ee2a17fe6ee17ab64b818403fe10f7"), looks := true }, kinds := [], alts := [], laidByText := true, laidKinds := [.data, .data, .data, .data, .handle, .sentinel, .sentinel, .pinned], laidTests := true, laidLooks := .later }
def AllUptoCardSaid : Prop := Claim7.holds Tryz.pinned (.plain (OpenSpec.upto allSpec)) allUptoCard

/-- THE SECOND FORM's CARD OF 'leasekeeperkeep.Timed'. -/
def timedUptoCard : Claim7 := { stood := { row := timedUptoRow, standIns := [], harness := (true, "d54bde4bcb6af8fedced8467d1ec724b06ee2a17fe6ee17ab64b818403fe10f7"), looks := true }, kinds := [], alts := [], laidByText := true, laidKinds := [.data, .data, .data, .data, .handle, .sentinel, .sentinel, .pinned], laidTests := true, laidLooks := .later }
def TimedUptoCardSaid : Prop := Claim7.holds Tryz.pinned (.plain (OpenSpec.upto timedSpec)) timedUptoCard

/-- THE SECOND FORM's CARD OF 'leasekeeperkeep.Walked'. -/
def walkedUptoCard : Claim7 := { stood := { row := walkedUptoRow, standIns := [], harness := (true, "d54bde4bcb6af8fedced8467d1ec724b06ee2a17fe6ee17ab64b818403fe10f7"), looks := true }, kinds := [], alts := [], laidByText := true, laidKinds := [.data, .data, .data, .data, .handle, .sentinel, .sentinel, .pinned], laidTests := true, laidLooks := .later }
def WalkedUptoCardSaid : Prop := Claim7.holds Tryz.pinned (.plain (OpenSpec.upto walkedSpec)) walkedUptoCard

/-- THE SECOND FORM's CARD OF 'leasekeeperkeep.Climbed'. -/
def climbedUptoCard : Claim7 := { stood := { row := climbedUptoRow, standIns := [], harness := (true, "d54bde4bcb6af8fedced8467d1ec724b06ee2a17fe6ee17ab64b818403fe10f7"), looks := true }, kinds := [], alts := [], laidByText := true, laidKinds := [.data, .data, .data, .data, .handle, .sentinel, .sentinel, .pinned], laidTests := true, laidLooks := .later }
def ClimbedUptoCardSaid : Prop := Claim7.holds Tryz.pinned (.plain (OpenSpec.upto climbedSpec)) climbedUptoCard

/-- THE SECOND FORM's CARD OF 'leasekeeperkeep.Patient'. -/
def patientUptoCard : Claim7 := { stood := { row := patientUptoRow, standIns := [], harness := (true, "d54bde4bcb6af8fedced8467d1ec724b06ee2a17fe6ee17ab64b818403fe10f7"), looks := true }, kinds := [], alts := [], laidByText := true, laidKinds := [.data, .data, .data, .data, .handle, .sentinel, .sentinel, .pinned], laidTests := true, laidLooks := .later }
def PatientUptoCardSaid : Prop := Claim7.holds Tryz.pinned (.plain (OpenSpec.upto patientSpec)) patientUptoCard

/-- THE SECOND FORM's CARD OF 'leasekeeperkeep.Below'. -/
def belowUptoCard : Claim7 := { stood := { row := belowUptoRow, standIns := [], harness := (true, "d54bde4bcb6af8fedced8467d1ec724b06ee2a17fe6ee17ab64b818403fe10f7"), looks := true }, kinds := [], alts := [], laidByText := true, laidKinds := [.data, .data, .data, .data, .handle, .sentinel, .sentinel, .pinned], laidTests := true, laidLooks := .later }
def BelowUptoCardSaid : Prop := Claim7.holds Tryz.pinned (.plain (OpenSpec.upto belowSpec)) belowUptoCard

/-- THE SECOND FORM's CARD OF 'leasekeeperkeep.Compacted'. -/
def compactedUptoCard : Claim7 := { stood := { row := compactedUptoRow, standIns := [], harness := (true, "d54bde4bcb6af8fedced8467d1ec724b06ee2a17fe6ee17ab64b818403fe10f7"), looks := true }, kinds := [], alts := [], laidByText := true, laidKinds := [.data, .data, .data, .data, .handle, .sentinel, .sentinel, .pinned], laidTests := true, laidLooks := .later }
def CompactedUptoCardSaid : Prop := Claim7.holds Tryz.pinned (.plain (OpenSpec.upto compactedSpec)) compactedUptoCard
end Rows
end Go.Proofs.YtjbekgjdempbiaaGreatDoor
