/-
  DERIVED. GIVEN WITH THE SEED: THE CARDS: each row of YtpiohehijkpghacGreatDoorRows.lean that lists a variable, with what it lists TIED to the program's text (the seventh form; the later family's looks); each row that meets fmt, with fmt's text TOLD by the authors' own Lean function (tested against real Go, not proved from fmt's source: count such statements apart). THE CARD IS WHAT COUNTS. Prove the row's statement (the work); the ties are given (YtpiohehijkpghacGreatDoorTie.lean); close each card by the builder's one call (the guide's Derived/Test/ToyasCard.lean, 'card_holds'). Laid BY PROGRAM, IN A SANDBOX (cutbox-door.mjs). By AI agents, Wed Nov 11 2026. No macro, syntax, notation, axiom, sorry.
-/
import Derived.Test.YtpiohehijkpghacGreatDoorRows
import GoSem.ClaimSeven
namespace Go.Proofs.YtpiohehijkpghacGreatDoor
namespace Rows

/-- THE TIED CARD OF 'humpyardkeep.CoreAlike'. -/
def coreAlikeCard : Claim7 := { stood := { row := coreAlikeRow, standIns := [], harness := (true, "ac345c03673e08e9ac0bab6b61f97665b54e0b1749a39d51c4fc58ab84e733fd"), looks := true }, kinds := [], alts := [], laidByText := true, laidKinds := [.wider, .data], laidTests := true, laidLooks := .later }
def CoreAlikeCardSaid : Prop := Claim7.holds Tryz.pinned (.plain (OpenSpec.ofChange coreAlikeSpec)) coreAlikeCard

/-- THE TIED CARD OF 'humpyardkeep.DriveTells'. -/
def driveTellsCard : Claim7 := { stood := { row := driveTellsRow, standIns := [], harness := (true, "ac345c03673e08e9ac0bab6b61f97665b54e0b1749a39d51c4fc58ab84e733fd"), looks := true }, kinds := [], alts := [], laidByText := true, laidKinds := [.wider, .data, .data, .data, .data, .sentinel, .sentinel], laidTests := true, laidLooks := .later }
def DriveTellsCardSaid : Prop := Claim7.holds Tryz.pinned (.plain (OpenSpec.ofChange driveTellsSpec)) driveTellsCard

/-- THE TIED CARD OF 'humpyardkeep.DriveOn'. -/
def driveOnCard : Claim7 := { stood := { row := driveOnRow, standIns := [], harness := (true, "ac345c03673e08e9ac0bab6b61f97665b54e0b1749a39d51c4fc58ab84e733fd"), looks := true }, kinds := [], alts := [], laidByText := true, laidKinds := [.wider, .data, .data, .data, .data, .sentinel, .sentinel], laidTests := true, laidLooks := .later }
def DriveOnCardSaid : Prop := Claim7.holds Tryz.pinned (.plain (OpenSpec.ofChange driveOnSpec)) driveOnCard

/-- THE SECOND FORM's CARD OF 'humpyardkeep.CoreAlike'. -/
def coreAlikeUptoCard : Claim7 := { stood := { row := coreAlikeUptoRow, standIns := [], harness := (true, "ac345c03673e08e9ac0bab6b61f97665b54e0b1749a39d51c4fc58ab84e733fd"), looks := true }, kinds := [], alts := [], laidByText := true, laidKinds := [.wider, .data], laidTests := true, laidLooks := .later }
def CoreAlikeUptoCardSaid : Prop := Claim7.holds Tryz.pinned (.plain (OpenSpec.upto coreAlikeSpec)) coreAlikeUptoCard

/-- THE SECOND FORM's CARD OF 'humpyardkeep.DriveTells'. -/
def driveTellsUptoCard : Claim7 := { stood := { row := driveTellsUptoRow, standIns := [], harness := (true, "ac345c03673e08e9ac0bab6b61f97665b54e0b1749a39d51c4fc58ab84e733fd"), looks := true }, kinds := [], alts := [], laidByText := true, laidKinds := [.wider, .data, .data, .data, .data, .sentinel, .sentinel], laidTests := true, laidLooks := .later }
def DriveTellsUptoCardSaid : Prop := Claim7.holds Tryz.pinned (.plain (OpenSpec.upto driveTellsSpec)) driveTellsUptoCard

/-- THE SECOND FORM's CARD OF 'humpyardkeep.DriveOn'. -/
def driveOnUptoCard : Claim7 := { stood := { row := driveOnUptoRow, standIns := [], harness := (true, "ac345c03673e08e9ac0bab6b61f97665b54e0b1749a39d51c4fc58ab84e733fd"), looks := true }, kinds := [], alts := [], laidByText := true, laidKinds := [.wider, .data, .data, .data, .data, .sentinel, .sentinel], laidTests := true, laidLooks := .later }
def DriveOnUptoCardSaid : Prop := Claim7.holds Tryz.pinned (.plain (OpenSpec.upto driveOnSpec)) driveOnUptoCard
end Rows
end Go.Proofs.YtpiohehijkpghacGreatDoor
