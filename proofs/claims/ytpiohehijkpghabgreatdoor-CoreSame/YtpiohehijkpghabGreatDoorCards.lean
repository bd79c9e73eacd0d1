/-
  DERIVED. GIVEN WITH THE SEED: THE CARDS: each row of YtpiohehijkpghabGreatDoorRows.lean that lists a variable, with what it lists TIED to the program's text (the seventh form; the later family's looks); each row that meets fmt, with fmt's text TOLD by the authors' own Lean function (tested against real Go, not proved from fmt's source: count such statements apart). THE CARD IS WHAT COUNTS. Prove the row's statement (the work); the ties are given (YtpiohehijkpghabGreatDoorTie.lean); close each card by the builder's one call (the guide's Derived/Test/ToyasCard.lean, 'card_holds'). Laid BY PROGRAM, IN A SANDBOX (cutbox-door.mjs). By AI agents, Wed Nov 11 2026. No macro, syntax, notation, axiom, sorry.
-/
import Derived.Test.YtpiohehijkpghabGreatDoorRows
import GoSem.ClaimSeven
namespace Go.Proofs.YtpiohehijkpghabGreatDoor
namespace Rows

/-- THE TIED CARD OF 'humpyardlaw.CoreSame'. -/
def coreSameCard : Claim7 := { stood := { row := coreSameRow, standIns := [], harness := (true, "a7cbcb4fbcf72956ee2a4e464fcdc549a620402871a81ea53927afbc3d8d2ce0"), looks := false }, kinds := [], alts := [], laidByText := true, laidKinds := [.wider, .data], laidTests := true, laidLooks := .later }
def CoreSameCardSaid : Prop := Claim7.holds Tryz.pinned (.plain (OpenSpec.ofChange coreSameSpec)) coreSameCard

/-- THE TIED CARD OF 'humpyardlaw.CoreGoes'. -/
def coreGoesCard : Claim7 := { stood := { row := coreGoesRow, standIns := [], harness := (true, "a7cbcb4fbcf72956ee2a4e464fcdc549a620402871a81ea53927afbc3d8d2ce0"), looks := false }, kinds := [], alts := [], laidByText := true, laidKinds := [.wider, .data], laidTests := true, laidLooks := .later }
def CoreGoesCardSaid : Prop := Claim7.holds Tryz.pinned (.plain (OpenSpec.ofChange coreGoesSpec)) coreGoesCard

/-- THE SECOND FORM's CARD OF 'humpyardlaw.CoreSame'. -/
def coreSameUptoCard : Claim7 := { stood := { row := coreSameUptoRow, standIns := [], harness := (true, "a7cbcb4fbcf72956ee2a4e464fcdc549a620402871a81ea53927afbc3d8d2ce0"), looks := false }, kinds := [], alts := [], laidByText := true, laidKinds := [.wider, .data], laidTests := true, laidLooks := .later }
def CoreSameUptoCardSaid : Prop := Claim7.holds Tryz.pinned (.plain (OpenSpec.upto coreSameSpec)) coreSameUptoCard

/-- THE SECOND FORM's CARD OF 'humpyardlaw.CoreGoes'. -/
def coreGoesUptoCard : Claim7 := { stood := { row := coreGoesUptoRow, standIns := [], harness := (true, "a7cbcb4fbcf72956ee2a4e464fcdc549a620402871a81ea53927afbc3d8d2ce0"), looks := false }, kinds := [], alts := [], laidByText := true, laidKinds := [.wider, .data], laidTests := true, laidLooks := .later }
def CoreGoesUptoCardSaid : Prop := Claim7.holds Tryz.pinned (.plain (OpenSpec.upto coreGoesSpec)) coreGoesUptoCard
end Rows
end Go.Proofs.YtpiohehijkpghabGreatDoor
