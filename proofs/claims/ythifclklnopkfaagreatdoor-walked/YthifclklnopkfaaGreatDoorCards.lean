/-
  DERIVED. GIVEN WITH THE SEED: THE CARDS: each row of YthifclklnopkfaaGreatDoorRows.lean that lists a variable, with what it lists TIED to the program's text (the seventh form; the later family's looks); each row that meets fmt, with fmt's text TOLD by the authors' own Lean function (tested against real Go, not proved from fmt's source: count such statements apart). THE CARD IS WHAT COUNTS. Prove the row's statement (the work); the ties are given (YthifclklnopkfaaGreatDoorTie.lean); close each card by the builder's one call (the guide's Derived/Test/ToyasCard.lean, 'card_holds'). Laid BY PROGRAM, IN A SANDBOX (cutbox-door.mjs). By AI agents, Wed Nov 11 2026. No macro, syntax, notation, axiom, sorry.
-/
import Derived.Test.YthifclklnopkfaaGreatDoorRows
import GoSem.ClaimSeven
namespace Go.Proofs.YthifclklnopkfaaGreatDoor
namespace Rows

/-- THE TIED CARD OF 'leasekeeperlaw.Leased'. -/
def leasedCard : Claim7 := { stood := { row := leasedRow, standIns := [], harness := (true, "96e3bc0f015bfbd1f2e9d38dd1f67ddc5e87e6a003d841d7ce59cf04cf66849f"), looks := true }, kinds := [], alts := [], laidByText := true, laidKinds := [.data, .data, .data, .handle, .sentinel, .sentinel], laidTests := true, laidLooks := .later }
def LeasedCardSaid : Prop := Claim7.holds Tryz.pinned (.plain (OpenSpec.ofChange leasedSpec)) leasedCard

/-- THE TIED CARD OF 'leasekeeperlaw.Revoked'. -/
def revokedCard : Claim7 := { stood := { row := revokedRow, standIns := [], harness := (true, "96e3bc0f015bfbd1f2e9d38dd1f67ddc5e87e6a003d841d7ce59cf04cf66849f"), looks := true }, kinds := [], alts := [], laidByText := true, laidKinds := [.data, .data, .data, .handle, .sentinel, .sentinel], laidTests := true, laidLooks := .later }
def RevokedCardSaid : Prop := Claim7.holds Tryz.pinned (.plain (OpenSpec.ofChange revokedSpec)) revokedCard

/-- THE TIED CARD OF 'leasekeeperlaw.Kept'. -/
def keptCard : Claim7 := { stood := { row := keptRow, standIns := [], harness := (true, "96e3bc0f015bfbd1f2e9d38dd1f67ddc5e87e6a003d841d7ce59cf04cf66849f"), looks := true }, kinds := [], alts := [], laidByText := true, laidKinds := [.data, .data, .data, .handle, .sentinel, .sentinel], laidTests := true, laidLooks := .later }
def KeptCardSaid : Prop := Claim7.holds Tryz.pinned (.plain (OpenSpec.ofChange keptSpec)) keptCard

/-- THE TIED CARD OF 'leasekeeperlaw.Fallen'. -/
def fallenCard : Claim7 := { stood := { row := fallenRow, standIns := [], harness := (true, "96e3bc0f015bfbd1f2e9d38dd1f67ddc5e87e6a003d841d7ce59cf04cf66849f"), looks := true }, kinds := [], alts := [], laidByText := true, laidKinds := [.data, .data, .data, .handle, .sentinel, .sentinel], laidTests := true, laidLooks := .later }
def FallenCardSaid : Prop := Claim7.holds Tryz.pinned (.plain (OpenSpec.ofChange fallenSpec)) fallenCard

/-- THE TIED CARD OF 'leasekeeperlaw.All'. -/
def allCard : Claim7 := { stood := { row := allRow, standIns := [], harness := (true, "96e3bc0f015bfbd1f2e9d38dd1f67ddc5e87e6a003d841d7ce59cf04cf66849f"), looks := true }, kinds := [], alts := [], laidByText := true, laidKinds := [.data, .data, .data, .handle, .sentinel, .sentinel], laidTests := true, laidLooks := .later }
def AllCardSaid : Prop := Claim7.holds Tryz.pinned (.plain (OpenSpec.ofChange allSpec)) allCard

/-- THE TIED CARD OF 'leasekeeperkeep.Walked'. -/
def walkedCard : Claim7 := { stood := { row := walkedRow, standIns := [], harness := (true, "96e3bc0f015bfbd1f2e9d38dd1f67ddc5e87e6a003d841d7ce59cf04cf66849f"), looks := true }, kinds := [], alts := [], laidByText := true, laidKinds := [.data, .data, .data, .handle, .sentinel, .sentinel], laidTests := true, laidLooks := .later }
def WalkedCardSaid : Prop := Claim7.holds Tryz.pinned (.plain (OpenSpec.ofChange walkedSpec)) walkedCard

/-- THE SECOND FORM's CARD OF 'leasekeeperlaw.Leased'. -/
def leasedUptoCard : Claim7 := { stood := { row := leasedUptoRow, standIns := [], harness := (true, "96e3bc0f015bfbd1f2e9d38dd1f67ddc5e87e6a003d841d7ce59cf04cf66849f"), looks := true }, kinds := [], alts := [], laidByText := true, laidKinds := [.data, .data, .data, .handle, .sentinel, .sentinel], laidTests := true, laidLooks := .later }
def LeasedUptoCardSaid : Prop := Claim7.holds Tryz.pinned (.plain (OpenSpec.upto leasedSpec)) leasedUptoCard

/-- THE SECOND FORM's CARD OF 'leasekeeperlaw.Revoked'. -/
def revokedUptoCard : Claim7 := { stood := { row := revokedUptoRow, standIns := [], harness := (true, "96e3bc0f015bfbd1f2e9d38dd1f67ddc5e87e6a003d841d7ce59cf04cf66849f"), looks := true }, kinds := [], alts := [], laidByText := true, laidKinds := [.data, .data, .data, .handle, .sentinel, .sentinel], laidTests := true, laidLooks := .later }
def RevokedUptoCardSaid : Prop := Claim7.holds Tryz.pinned (.plain (OpenSpec.upto revokedSpec)) revokedUptoCard

/-- THE SECOND FORM's CARD OF 'leasekeeperlaw.Kept'. -/
def keptUptoCard : Claim7 := { stood := { row := keptUptoRow, standIns := [], harness := (true, "96e3bc0f015bfbd1f2e9d38dd1f67ddc5e87e6a003d841d7ce59cf04cf66849f"), looks := true }, kinds := [], alts := [], laidByText := true, laidKinds := [.data, .data, .data, .handle, .sentinel, .sentinel], laidTests := true, laidLooks := .later }
def KeptUptoCardSaid : Prop := Claim7.holds Tryz.pinned (.plain (OpenSpec.upto keptSpec)) keptUptoCard

/-- THE SECOND FORM's CARD OF 'leasekeeperlaw.Fallen'. -/
def fallenUptoCard : Claim7 := { stood := { row := fallenUptoRow, standIns := [], harness := (true, "96e3bc0f015bfbd1f2e9d38dd1f67ddc5e87e6a003d841d7ce59cf04cf66849f"), looks := true }, kinds := [], alts := [], laidByText := true, laidKinds := [.data, .data, .data, .handle, .sentinel, .sentinel], laidTests := true, laidLooks := .later }
def FallenUptoCardSaid : Prop := Claim7.holds Tryz.pinned (.plain (OpenSpec.upto fallenSpec)) fallenUptoCard

/-- THE SECOND FORM's CARD OF 'leasekeeperlaw.All'. -/
def allUptoCard : Claim7 := { stood := { row := allUptoRow, standIns := [], harness := (true, "96e3bc0f015bfbd1f2e9d38dd1f67ddc5e87e6a003d841d7ce59cf04cf66849f"), looks := true }, kinds := [], alts := [], laidByText := true, laidKinds := [.data, .data, .data, .handle, .sentinel, .sentinel], laidTests := true, laidLooks := .later }
def AllUptoCardSaid : Prop := Claim7.holds Tryz.pinned (.plain (OpenSpec.upto allSpec)) allUptoCard

/-- THE SECOND FORM's CARD OF 'leasekeeperkeep.Walked'. -/
def walkedUptoCard : Claim7 := { stood := { row := walkedUptoRow, standIns := [], harness := (true, "96e3bc0f015bfbd1f2e9d38dd1f67ddc5e87e6a003d841d7ce59cf04cf66849f"), looks := true }, kinds := [], alts := [], laidByText := true, laidKinds := [.data, .data, .data, .handle, .sentinel, .sentinel], laidTests := true, laidLooks := .later }
def WalkedUptoCardSaid : Prop := Claim7.holds Tryz.pinned (.plain (OpenSpec.upto walkedSpec)) walkedUptoCard
end Rows
end Go.Proofs.YthifclklnopkfaaGreatDoor
