/-
  DERIVED. GIVEN WITH THE SEED: THE CARDS: each row of YtpiohehijkpghaaDoorRows.lean that lists a variable, with what it lists TIED to the program's text (the seventh form; the later family's looks); each row that meets fmt, with fmt's text TOLD by the authors' own Lean function (tested against real Go, not proved from fmt's source: count such statements apart). THE CARD IS WHAT COUNTS. Prove the row's statement (the work); the ties are given (YtpiohehijkpghaaDoorTie.lean); close each card by the builder's one call (the guide's Derived/Test/ToyasCard.lean, 'card_holds'). Laid BY PROGRAM, IN A SANDBOX (cutbox-door.mjs). By AI agents, Wed Nov 11 2026. No macro, syntax, notation, axiom, sorry.
-/
import Derived.Test.YtpiohehijkpghaaDoorRows
import GoSem.ClaimSeven
namespace Go.Proofs.YtpiohehijkpghaaDoor
namespace Rows

/-- THE TIED CARD OF 'humpyardlaw.DecodeTells'. -/
def decodeTellsCard : Claim7 := { stood := { row := decodeTellsRow, standIns := [], harness := (true, "f588c88fe9d3ead7c2e47eed684833f5582276e56a4edaf0e4f9f2d2edc1f744"), looks := false }, kinds := [], alts := [], laidByText := true, laidKinds := [.wider], laidTests := true, laidLooks := .later }
def DecodeTellsCardSaid : Prop := Claim7.holds Tryd.pinned (.plain (OpenSpec.ofChange decodeTellsSpec)) decodeTellsCard

/-- THE TIED CARD OF 'humpyardlaw.DecodeEncodes'. -/
def decodeEncodesCard : Claim7 := { stood := { row := decodeEncodesRow, standIns := [], harness := (true, "f588c88fe9d3ead7c2e47eed684833f5582276e56a4edaf0e4f9f2d2edc1f744"), looks := false }, kinds := [], alts := [], laidByText := true, laidKinds := [.wider], laidTests := true, laidLooks := .later }
def DecodeEncodesCardSaid : Prop := Claim7.holds Tryd.pinned (.plain (OpenSpec.ofChange decodeEncodesSpec)) decodeEncodesCard

/-- THE TIED CARD OF 'humpyardkeep.DecodeBack'. -/
def decodeBackCard : Claim7 := { stood := { row := decodeBackRow, standIns := [], harness := (true, "f588c88fe9d3ead7c2e47eed684833f5582276e56a4edaf0e4f9f2d2edc1f744"), looks := false }, kinds := [], alts := [], laidByText := true, laidKinds := [.wider], laidTests := true, laidLooks := .later }
def DecodeBackCardSaid : Prop := Claim7.holds Tryd.pinned (.plain (OpenSpec.ofChange decodeBackSpec)) decodeBackCard

/-- THE TIED CARD OF 'humpyardlaw.HartSteps'. -/
def hartStepsCard : Claim7 := { stood := { row := hartStepsRow, standIns := [], harness := (true, "f588c88fe9d3ead7c2e47eed684833f5582276e56a4edaf0e4f9f2d2edc1f744"), looks := false }, kinds := [], alts := [], laidByText := true, laidKinds := [.wider, .data], laidTests := true, laidLooks := .later }
def HartStepsCardSaid : Prop := Claim7.holds Tryd.pinned (.plain (OpenSpec.ofChange hartStepsSpec)) hartStepsCard

/-- THE TIED CARD OF 'humpyardkeep.HartTells'. -/
def hartTellsCard : Claim7 := { stood := { row := hartTellsRow, standIns := [], harness := (true, "f588c88fe9d3ead7c2e47eed684833f5582276e56a4edaf0e4f9f2d2edc1f744"), looks := false }, kinds := [], alts := [], laidByText := true, laidKinds := [.wider, .data], laidTests := true, laidLooks := .later }
def HartTellsCardSaid : Prop := Claim7.holds Tryd.pinned (.plain (OpenSpec.ofChange hartTellsSpec)) hartTellsCard

/-- THE TIED CARD OF 'humpyardlaw.ModelRuns'. -/
def modelRunsCard : Claim7 := { stood := { row := modelRunsRow, standIns := [], harness := (true, "f588c88fe9d3ead7c2e47eed684833f5582276e56a4edaf0e4f9f2d2edc1f744"), looks := false }, kinds := [], alts := [], laidByText := true, laidKinds := [.wider, .data], laidTests := true, laidLooks := .later }
def ModelRunsCardSaid : Prop := Claim7.holds Tryd.pinned (.plain (OpenSpec.ofChange modelRunsSpec)) modelRunsCard

/-- THE TIED CARD OF 'humpyardkeep.ModelReplays'. -/
def modelReplaysCard : Claim7 := { stood := { row := modelReplaysRow, standIns := [], harness := (true, "f588c88fe9d3ead7c2e47eed684833f5582276e56a4edaf0e4f9f2d2edc1f744"), looks := false }, kinds := [], alts := [], laidByText := true, laidKinds := [.wider, .data], laidTests := true, laidLooks := .later }
def ModelReplaysCardSaid : Prop := Claim7.holds Tryd.pinned (.plain (OpenSpec.ofChange modelReplaysSpec)) modelReplaysCard

/-- THE TIED CARD OF 'humpyardkeep.ModelSplits'. -/
def modelSplitsCard : Claim7 := { stood := { row := modelSplitsRow, standIns := [], harness := (true, "f588c88fe9d3ead7c2e47eed684833f5582276e56a4edaf0e4f9f2d2edc1f744"), looks := false }, kinds := [], alts := [], laidByText := true, laidKinds := [.wider, .data], laidTests := true, laidLooks := .later }
def ModelSplitsCardSaid : Prop := Claim7.holds Tryd.pinned (.plain (OpenSpec.ofChange modelSplitsSpec)) modelSplitsCard

/-- THE SECOND FORM's CARD OF 'humpyardlaw.DecodeTells'. -/
def decodeTellsUptoCard : Claim7 := { stood := { row := decodeTellsUptoRow, standIns := [], harness := (true, "f588c88fe9d3ead7c2e47eed684833f5582276e56a4edaf0e4f9f2d2edc1f744"), looks := false }, kinds := [], alts := [], laidByText := true, laidKinds := [.wider], laidTests := true, laidLooks := .later }
def DecodeTellsUptoCardSaid : Prop := Claim7.holds Tryd.pinned (.plain (OpenSpec.upto decodeTellsSpec)) decodeTellsUptoCard

/-- THE SECOND FORM's CARD OF 'humpyardlaw.DecodeEncodes'. -/
def decodeEncodesUptoCard : Claim7 := { stood := { row := decodeEncodesUptoRow, standIns := [], harness := (true, "f588c88fe9d3ead7c2e47eed684833f5582276e56a4edaf0e4f9f2d2edc1f744"), looks := false }, kinds := [], alts := [], laidByText := true, laidKinds := [.wider], laidTests := true, laidLooks := .later }
def DecodeEncodesUptoCardSaid : Prop := Claim7.holds Tryd.pinned (.plain (OpenSpec.upto decodeEncodesSpec)) decodeEncodesUptoCard

/-- THE SECOND FORM's CARD OF 'humpyardkeep.DecodeBack'. -/
def decodeBackUptoCard : Claim7 := { stood := { row := decodeBackUptoRow, standIns := [], harness := (true, "f588c88fe9d3ead7c2e47eed684833f5582276e56a4edaf0e4f9f2d2edc1f744"), looks := false }, kinds := [], alts := [], laidByText := true, laidKinds := [.wider], laidTests := true, laidLooks := .later }
def DecodeBackUptoCardSaid : Prop := Claim7.holds Tryd.pinned (.plain (OpenSpec.upto decodeBackSpec)) decodeBackUptoCard

/-- THE SECOND FORM's CARD OF 'humpyardlaw.HartSteps'. -/
def hartStepsUptoCard : Claim7 := { stood := { row := hartStepsUptoRow, standIns := [], harness := (true, "f588c88fe9d3ead7c2e47eed684833f5582276e56a4edaf0e4f9f2d2edc1f744"), looks := false }, kinds := [], alts := [], laidByText := true, laidKinds := [.wider, .data], laidTests := true, laidLooks := .later }
def HartStepsUptoCardSaid : Prop := Claim7.holds Tryd.pinned (.plain (OpenSpec.upto hartStepsSpec)) hartStepsUptoCard

/-- THE SECOND FORM's CARD OF 'humpyardkeep.HartTells'. -/
def hartTellsUptoCard : Claim7 := { stood := { row := hartTellsUptoRow, standIns := [], harness := (true, "f588c88fe9d3ead7c2e47eed684833f5582276e56a4edaf0e4f9f2d2edc1f744"), looks := false }, kinds := [], alts := [], laidByText := true, laidKinds := [.wider, .data], laidTests := true, laidLooks := .later }
def HartTellsUptoCardSaid : Prop := Claim7.holds Tryd.pinned (.plain (OpenSpec.upto hartTellsSpec)) hartTellsUptoCard

/-- THE SECOND FORM's CARD OF 'humpyardlaw.ModelRuns'. -/
def modelRunsUptoCard : Claim7 := { stood := { row := modelRunsUptoRow, standIns := [], harness := (true, "f588c88fe9d3ead7c2e47eed684833f5582276e56a4edaf0e4f9f2d2edc1f744"), looks := false }, kinds := [], alts := [], laidByText := true, laidKinds := [.wider, .data], laidTests := true, laidLooks := .later }
def ModelRunsUptoCardSaid : Prop := Claim7.holds Tryd.pinned (.plain (OpenSpec.upto modelRunsSpec)) modelRunsUptoCard

/-- THE SECOND FORM's CARD OF 'humpyardkeep.ModelReplays'. -/
def modelReplaysUptoCard : Claim7 := { stood := { row := modelReplaysUptoRow, standIns := [], harness := (true, "f588c88fe9d3ead7c2e47eed684833f5582276e56a4edaf0e4f9f2d2edc1f744"), looks := false }, kinds := [], alts := [], laidByText := true, laidKinds := [.wider, .data], laidTests := true, laidLooks := .later }
def ModelReplaysUptoCardSaid : Prop := Claim7.holds Tryd.pinned (.plain (OpenSpec.upto modelReplaysSpec)) modelReplaysUptoCard

/-- THE SECOND FORM's CARD OF 'humpyardkeep.ModelSplits'. -/
def modelSplitsUptoCard : Claim7 := { stood := { row := modelSplitsUptoRow, standIns := [], harness := (true, "f588c88fe9d3ead7c2e47eed684833f5582276e56a4edaf0e4f9f2d2edc1f744"), looks := false }, kinds := [], alts := [], laidByText := true, laidKinds := [.wider, .data], laidTests := true, laidLooks := .later }
def ModelSplitsUptoCardSaid : Prop := Claim7.holds Tryd.pinned (.plain (OpenSpec.upto modelSplitsSpec)) modelSplitsUptoCard
end Rows
end Go.Proofs.YtpiohehijkpghaaDoor
