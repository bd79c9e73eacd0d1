/-
  NARROWER THAN 'FOR EVERY INPUT', by the rows' own cells (each row's printed sentence says how): DecodeTells: laid · DecodeEncodes: laid · DecodeBack: laid · HartSteps: laid · HartTells: laid · ModelRuns: laid · ModelReplays: laid · ModelSplits: laid.
  DERIVED. THE GIVEN ROWS OF THIS SEAT. 8 by the template 'for every input the law returns true; each argument reads behind the call as it read before'; 0 by the template 'total and deterministic' (their statements: YtpiohehijkpghaaDoorTotals.lean).
  GIVEN WITH THE SEED: the statements are not yours to turn. If you find one false, say at which input.
  Laid BY PROGRAM, IN A SANDBOX (cutbox-rows.mjs): the forced cells as the released guide's own fill.sh prints them over the translation adf07bd2343339e2… (all of the seat's roots in one cut). By AI agents, Wed Nov 11 2026. No macro, syntax, notation, axiom, sorry.
-/
import Derived.Test.YtpiohehijkpghaaDoorChecked
import GoSem.Claim
import GoSem.ClaimJoined
import GoSem.ClaimMapViews
import Derived.JoinedTies
import Derived.KernelRfl
namespace Go.Proofs.YtpiohehijkpghaaDoor
/- THE CELL 'sum', in the pinned program and in every row, IS THE sha256 OF THE DUMP (.gsa) THAT YtpiohehijkpghaaDoorProg.lean LOADS. Nothing in Lean hashes anything: it is a label: what it is worth is what the hold of that sum in a sandbox is worth. -/
noncomputable def Tryd.pinned : Pinned := { name := "ytpiohehijkpghaadoor", sum := "adf07bd2343339e24e1bfe6337ae8e821de230d8763c2cba00e1613782f1d47e", checked := Tryd.checked }
namespace Rows
def none {H : Type} : Left H := { results := [], args := [] }

/- WHAT THE LISTED PACKAGE-LEVEL VARIABLES READ AS WHEN THE CALL BEGINS. Each datum BY PROGRAM (the guide's laid-datum.mjs) off the statement by which the dump's own 'gosem.cut.vars' lays the variable. In a bare row this is a premise. The card (YtpiohehijkpghaaDoorCards.lean) ties it to the program's text. -/
def laid_humpyard_decode_forms {H : Type} : DataW H := .agg [.agg [.lit (.int .u32 0), .lit (.int .u32 0), .lit (.int .u32 0), .lit (.int .u32 0), .lit (.int .u32 0), .agg [.agg [.lit (.int .u32 0), .lit (.int .u32 0), .lit (.int .u32 0)], .agg [.lit (.int .u32 0), .lit (.int .u32 0), .lit (.int .u32 0)], .agg [.lit (.int .u32 0), .lit (.int .u32 0), .lit (.int .u32 0)], .agg [.lit (.int .u32 0), .lit (.int .u32 0), .lit (.int .u32 0)]]], .agg [.lit (.int .u32 127), .lit (.int .u32 31), .lit (.int .u32 0), .lit (.int .u32 0), .lit (.int .u32 0), .agg [.agg [.lit (.int .u32 12), .lit (.int .u32 20), .lit (.int .u32 12)], .agg [.lit (.int .u32 0), .lit (.int .u32 0), .lit (.int .u32 0)], .agg [.lit (.int .u32 0), .lit (.int .u32 0), .lit (.int .u32 0)], .agg [.lit (.int .u32 0), .lit (.int .u32 0), .lit (.int .u32 0)]]], .agg [.lit (.int .u32 127), .lit (.int .u32 31), .lit (.int .u32 0), .lit (.int .u32 0), .lit (.int .u32 11), .agg [.agg [.lit (.int .u32 31), .lit (.int .u32 1), .lit (.int .u32 20)], .agg [.lit (.int .u32 12), .lit (.int .u32 8), .lit (.int .u32 12)], .agg [.lit (.int .u32 20), .lit (.int .u32 1), .lit (.int .u32 11)], .agg [.lit (.int .u32 21), .lit (.int .u32 10), .lit (.int .u32 1)]]], .agg [.lit (.int .u32 28799), .lit (.int .u32 31), .lit (.int .u32 31), .lit (.int .u32 0), .lit (.int .u32 20), .agg [.agg [.lit (.int .u32 20), .lit (.int .u32 12), .lit (.int .u32 0)], .agg [.lit (.int .u32 0), .lit (.int .u32 0), .lit (.int .u32 0)], .agg [.lit (.int .u32 0), .lit (.int .u32 0), .lit (.int .u32 0)], .agg [.lit (.int .u32 0), .lit (.int .u32 0), .lit (.int .u32 0)]]], .agg [.lit (.int .u32 4261441663), .lit (.int .u32 31), .lit (.int .u32 31), .lit (.int .u32 0), .lit (.int .u32 0), .agg [.agg [.lit (.int .u32 20), .lit (.int .u32 5), .lit (.int .u32 0)], .agg [.lit (.int .u32 0), .lit (.int .u32 0), .lit (.int .u32 0)], .agg [.lit (.int .u32 0), .lit (.int .u32 0), .lit (.int .u32 0)], .agg [.lit (.int .u32 0), .lit (.int .u32 0), .lit (.int .u32 0)]]], .agg [.lit (.int .u32 28799), .lit (.int .u32 0), .lit (.int .u32 31), .lit (.int .u32 31), .lit (.int .u32 19), .agg [.agg [.lit (.int .u32 31), .lit (.int .u32 1), .lit (.int .u32 12)], .agg [.lit (.int .u32 7), .lit (.int .u32 1), .lit (.int .u32 11)], .agg [.lit (.int .u32 25), .lit (.int .u32 6), .lit (.int .u32 5)], .agg [.lit (.int .u32 8), .lit (.int .u32 4), .lit (.int .u32 1)]]], .agg [.lit (.int .u32 28799), .lit (.int .u32 0), .lit (.int .u32 31), .lit (.int .u32 31), .lit (.int .u32 20), .agg [.agg [.lit (.int .u32 25), .lit (.int .u32 7), .lit (.int .u32 5)], .agg [.lit (.int .u32 7), .lit (.int .u32 5), .lit (.int .u32 0)], .agg [.lit (.int .u32 0), .lit (.int .u32 0), .lit (.int .u32 0)], .agg [.lit (.int .u32 0), .lit (.int .u32 0), .lit (.int .u32 0)]]], .agg [.lit (.int .u32 4261441663), .lit (.int .u32 31), .lit (.int .u32 31), .lit (.int .u32 31), .lit (.int .u32 0), .agg [.agg [.lit (.int .u32 0), .lit (.int .u32 0), .lit (.int .u32 0)], .agg [.lit (.int .u32 0), .lit (.int .u32 0), .lit (.int .u32 0)], .agg [.lit (.int .u32 0), .lit (.int .u32 0), .lit (.int .u32 0)], .agg [.lit (.int .u32 0), .lit (.int .u32 0), .lit (.int .u32 0)]]], .agg [.lit (.int .u32 4294967295), .lit (.int .u32 0), .lit (.int .u32 0), .lit (.int .u32 0), .lit (.int .u32 0), .agg [.agg [.lit (.int .u32 0), .lit (.int .u32 0), .lit (.int .u32 0)], .agg [.lit (.int .u32 0), .lit (.int .u32 0), .lit (.int .u32 0)], .agg [.lit (.int .u32 0), .lit (.int .u32 0), .lit (.int .u32 0)], .agg [.lit (.int .u32 0), .lit (.int .u32 0), .lit (.int .u32 0)]]]]
def laid_humpyard_hart_immediate {H : Type} : DataW H := .agg [.lit (.int .i64 0), .lit (.int .i64 0), .lit (.int .i64 0), .lit (.int .i64 0), .lit (.int .i64 0), .lit (.int .i64 0), .lit (.int .i64 0), .lit (.int .i64 0), .lit (.int .i64 0), .lit (.int .i64 0), .lit (.int .i64 0), .lit (.int .i64 0), .lit (.int .i64 0), .lit (.int .i64 0), .lit (.int .i64 0), .lit (.int .i64 0), .lit (.int .i64 0), .lit (.int .i64 0), .lit (.int .i64 0), .lit (.int .i64 28), .lit (.int .i64 31), .lit (.int .i64 32), .lit (.int .i64 33), .lit (.int .i64 36), .lit (.int .i64 37), .lit (.int .i64 30), .lit (.int .i64 34), .lit (.int .i64 35), .lit (.int .i64 0), .lit (.int .i64 0), .lit (.int .i64 0), .lit (.int .i64 0), .lit (.int .i64 0), .lit (.int .i64 0), .lit (.int .i64 0), .lit (.int .i64 0), .lit (.int .i64 0), .lit (.int .i64 0), .lit (.int .i64 0), .lit (.int .i64 0), .lit (.int .i64 0), .lit (.int .i64 0), .lit (.int .i64 0), .lit (.int .i64 0), .lit (.int .i64 0), .lit (.int .i64 0), .lit (.int .i64 0), .lit (.int .i64 0), .lit (.int .i64 0)]

/-- 'humpyardlaw.DecodeTells': WHATEVER THE INPUT: true; the input reads as it did. -/
def decodeTellsSpec : ChangeSpec := { name := "decodeTells", fn := fun _ => fun
  | [d] => { results := [.lit (.bool true)], args := [d] }
  | _ => none }
def decodeTellsRow : OpenClaim := { program := "ytpiohehijkpghaadoor", sum := "adf07bd2343339e24e1bfe6337ae8e821de230d8763c2cba00e1613782f1d47e", func := "humpyard/humpyardlaw.DecodeTells", spec := "decodeTells", named := ["humpyard/decode.forms"], apart := false, laid := [("humpyard/decode.forms", laid_humpyard_decode_forms)] }
def DecodeTellsSaid : Prop := decodeTellsRow.holds Tryd.pinned (OpenSpec.ofChange decodeTellsSpec)

/-- ITS FALSE NEIGHBOUR: 'it returns false'. Refute it at one input. -/
def decodeTellsWrong : ChangeSpec := { name := "decodeTells", fn := fun _ => fun
  | [d] => { results := [.lit (.bool false)], args := [d] }
  | _ => none }
def DecodeTellsWrongFalsely : Prop := decodeTellsRow.holds Tryd.pinned (OpenSpec.ofChange decodeTellsWrong)

/-- 'humpyardlaw.DecodeEncodes': WHATEVER THE INPUT: true; the input reads as it did. -/
def decodeEncodesSpec : ChangeSpec := { name := "decodeEncodes", fn := fun _ => fun
  | [d] => { results := [.lit (.bool true)], args := [d] }
  | _ => none }
def decodeEncodesRow : OpenClaim := { program := "ytpiohehijkpghaadoor", sum := "adf07bd2343339e24e1bfe6337ae8e821de230d8763c2cba00e1613782f1d47e", func := "humpyard/humpyardlaw.DecodeEncodes", spec := "decodeEncodes", unfollowed := true, recurses := true, named := ["humpyard/decode.forms"], apart := false, laid := [("humpyard/decode.forms", laid_humpyard_decode_forms)] }
def DecodeEncodesSaid : Prop := decodeEncodesRow.holds Tryd.pinned (OpenSpec.ofChange decodeEncodesSpec)

/-- ITS FALSE NEIGHBOUR: 'it returns false'. Refute it at one input. -/
def decodeEncodesWrong : ChangeSpec := { name := "decodeEncodes", fn := fun _ => fun
  | [d] => { results := [.lit (.bool false)], args := [d] }
  | _ => none }
def DecodeEncodesWrongFalsely : Prop := decodeEncodesRow.holds Tryd.pinned (OpenSpec.ofChange decodeEncodesWrong)

/-- 'humpyardkeep.DecodeBack': WHATEVER THE INPUT: true; the input reads as it did. -/
def decodeBackSpec : ChangeSpec := { name := "decodeBack", fn := fun _ => fun
  | [d] => { results := [.lit (.bool true)], args := [d] }
  | _ => none }
def decodeBackRow : OpenClaim := { program := "ytpiohehijkpghaadoor", sum := "adf07bd2343339e24e1bfe6337ae8e821de230d8763c2cba00e1613782f1d47e", func := "humpyard/humpyardkeep.DecodeBack", spec := "decodeBack", named := ["humpyard/decode.forms"], apart := false, laid := [("humpyard/decode.forms", laid_humpyard_decode_forms)] }
def DecodeBackSaid : Prop := decodeBackRow.holds Tryd.pinned (OpenSpec.ofChange decodeBackSpec)

/-- ITS FALSE NEIGHBOUR: 'it returns false'. Refute it at one input. -/
def decodeBackWrong : ChangeSpec := { name := "decodeBack", fn := fun _ => fun
  | [d] => { results := [.lit (.bool false)], args := [d] }
  | _ => none }
def DecodeBackWrongFalsely : Prop := decodeBackRow.holds Tryd.pinned (OpenSpec.ofChange decodeBackWrong)

/-- 'humpyardlaw.HartSteps': WHATEVER THE INPUT: true; the input reads as it did. -/
def hartStepsSpec : ChangeSpec := { name := "hartSteps", fn := fun _ => fun
  | [d1, d2] => { results := [.lit (.bool true)], args := [d1, d2] }
  | _ => none }
def hartStepsRow : OpenClaim := { program := "ytpiohehijkpghaadoor", sum := "adf07bd2343339e24e1bfe6337ae8e821de230d8763c2cba00e1613782f1d47e", func := "humpyard/humpyardlaw.HartSteps", spec := "hartSteps", named := ["humpyard/decode.forms", "humpyard/hart.immediate"], apart := false, laid := [("humpyard/decode.forms", laid_humpyard_decode_forms), ("humpyard/hart.immediate", laid_humpyard_hart_immediate)] }
def HartStepsSaid : Prop := hartStepsRow.holds Tryd.pinned (OpenSpec.ofChange hartStepsSpec)

/-- ITS FALSE NEIGHBOUR: 'it returns false'. Refute it at one input. -/
def hartStepsWrong : ChangeSpec := { name := "hartSteps", fn := fun _ => fun
  | [d1, d2] => { results := [.lit (.bool false)], args := [d1, d2] }
  | _ => none }
def HartStepsWrongFalsely : Prop := hartStepsRow.holds Tryd.pinned (OpenSpec.ofChange hartStepsWrong)

/-- 'humpyardkeep.HartTells': WHATEVER THE INPUT: true; the input reads as it did. -/
def hartTellsSpec : ChangeSpec := { name := "hartTells", fn := fun _ => fun
  | [d1, d2] => { results := [.lit (.bool true)], args := [d1, d2] }
  | _ => none }
def hartTellsRow : OpenClaim := { program := "ytpiohehijkpghaadoor", sum := "adf07bd2343339e24e1bfe6337ae8e821de230d8763c2cba00e1613782f1d47e", func := "humpyard/humpyardkeep.HartTells", spec := "hartTells", named := ["humpyard/decode.forms", "humpyard/hart.immediate"], apart := false, laid := [("humpyard/decode.forms", laid_humpyard_decode_forms), ("humpyard/hart.immediate", laid_humpyard_hart_immediate)] }
def HartTellsSaid : Prop := hartTellsRow.holds Tryd.pinned (OpenSpec.ofChange hartTellsSpec)

/-- ITS FALSE NEIGHBOUR: 'it returns false'. Refute it at one input. -/
def hartTellsWrong : ChangeSpec := { name := "hartTells", fn := fun _ => fun
  | [d1, d2] => { results := [.lit (.bool false)], args := [d1, d2] }
  | _ => none }
def HartTellsWrongFalsely : Prop := hartTellsRow.holds Tryd.pinned (OpenSpec.ofChange hartTellsWrong)

/-- 'humpyardlaw.ModelRuns': WHATEVER THE INPUT: true; the input reads as it did. -/
def modelRunsSpec : ChangeSpec := { name := "modelRuns", fn := fun _ => fun
  | [d1, d2, d3] => { results := [.lit (.bool true)], args := [d1, d2, d3] }
  | _ => none }
def modelRunsRow : OpenClaim := { program := "ytpiohehijkpghaadoor", sum := "adf07bd2343339e24e1bfe6337ae8e821de230d8763c2cba00e1613782f1d47e", func := "humpyard/humpyardlaw.ModelRuns", spec := "modelRuns", named := ["humpyard/decode.forms", "humpyard/hart.immediate"], apart := false, laid := [("humpyard/decode.forms", laid_humpyard_decode_forms), ("humpyard/hart.immediate", laid_humpyard_hart_immediate)] }
def ModelRunsSaid : Prop := modelRunsRow.holds Tryd.pinned (OpenSpec.ofChange modelRunsSpec)

/-- ITS FALSE NEIGHBOUR: 'it returns false'. Refute it at one input. -/
def modelRunsWrong : ChangeSpec := { name := "modelRuns", fn := fun _ => fun
  | [d1, d2, d3] => { results := [.lit (.bool false)], args := [d1, d2, d3] }
  | _ => none }
def ModelRunsWrongFalsely : Prop := modelRunsRow.holds Tryd.pinned (OpenSpec.ofChange modelRunsWrong)

/-- 'humpyardkeep.ModelReplays': WHATEVER THE INPUT: true; the input reads as it did. -/
def modelReplaysSpec : ChangeSpec := { name := "modelReplays", fn := fun _ => fun
  | [d1, d2, d3] => { results := [.lit (.bool true)], args := [d1, d2, d3] }
  | _ => none }
def modelReplaysRow : OpenClaim := { program := "ytpiohehijkpghaadoor", sum := "adf07bd2343339e24e1bfe6337ae8e821de230d8763c2cba00e1613782f1d47e", func := "humpyard/humpyardkeep.ModelReplays", spec := "modelReplays", named := ["humpyard/decode.forms", "humpyard/hart.immediate"], apart := false, laid := [("humpyard/decode.forms", laid_humpyard_decode_forms), ("humpyard/hart.immediate", laid_humpyard_hart_immediate)] }
def ModelReplaysSaid : Prop := modelReplaysRow.holds Tryd.pinned (OpenSpec.ofChange modelReplaysSpec)

/-- ITS FALSE NEIGHBOUR: 'it returns false'. Refute it at one input. -/
def modelReplaysWrong : ChangeSpec := { name := "modelReplays", fn := fun _ => fun
  | [d1, d2, d3] => { results := [.lit (.bool false)], args := [d1, d2, d3] }
  | _ => none }
def ModelReplaysWrongFalsely : Prop := modelReplaysRow.holds Tryd.pinned (OpenSpec.ofChange modelReplaysWrong)

/-- 'humpyardkeep.ModelSplits': WHATEVER THE INPUT: true; the input reads as it did. -/
def modelSplitsSpec : ChangeSpec := { name := "modelSplits", fn := fun _ => fun
  | [d1, d2, d3, d4] => { results := [.lit (.bool true)], args := [d1, d2, d3, d4] }
  | _ => none }
def modelSplitsRow : OpenClaim := { program := "ytpiohehijkpghaadoor", sum := "adf07bd2343339e24e1bfe6337ae8e821de230d8763c2cba00e1613782f1d47e", func := "humpyard/humpyardkeep.ModelSplits", spec := "modelSplits", named := ["humpyard/decode.forms", "humpyard/hart.immediate"], apart := false, laid := [("humpyard/decode.forms", laid_humpyard_decode_forms), ("humpyard/hart.immediate", laid_humpyard_hart_immediate)] }
def ModelSplitsSaid : Prop := modelSplitsRow.holds Tryd.pinned (OpenSpec.ofChange modelSplitsSpec)

/-- ITS FALSE NEIGHBOUR: 'it returns false'. Refute it at one input. -/
def modelSplitsWrong : ChangeSpec := { name := "modelSplits", fn := fun _ => fun
  | [d1, d2, d3, d4] => { results := [.lit (.bool false)], args := [d1, d2, d3, d4] }
  | _ => none }
def ModelSplitsWrongFalsely : Prop := modelSplitsRow.holds Tryd.pinned (OpenSpec.ofChange modelSplitsWrong)

/- THE SECOND FORM. 'bulk': how many values and letters a reading holds, each counted each time it is reached (what is shared counts as often as it is met; a slice's spare places count too). A statement '..UptoSaid' is the law's where the arguments, and the package variables that the reading takes, are together of bulk at most 1048576: NARROWER than '..Said'. Prove '..Said' where nothing that the law and all that it calls make is longer than what came in: it says more and counts as full. Else prove '..UptoSaid'. A law counts once. -/
mutual
def uptoBulk {H : Type} : DataW H → Nat
  | .lit (.string bytes) => bytes.length + 1
  | .lit _ => 1
  | .nil => 1
  | .ptr d => uptoBulk d + 1
  | .slice elems spare => uptoBulkAll elems + uptoBulkAll spare + 1
  | .agg parts => uptoBulkAll parts + 1
  | .iface _ d => uptoBulk d + 1
  | .map entries => uptoBulkEntries entries + 1
  | .held _ => 1
def uptoBulkAll {H : Type} : List (DataW H) → Nat
  | [] => 0
  | d :: r => uptoBulk d + uptoBulkAll r
def uptoBulkEntries {H : Type} : List (Lit × DataW H) → Nat
  | [] => 0
  | x :: r => uptoBulkEntry x + uptoBulkEntries r
def uptoBulkEntry {H : Type} : Lit × DataW H → Nat
  | (.string bytes, d) => bytes.length + uptoBulk d + 1
  | (_, d) => uptoBulk d + 1
 end
def uptoSmall : (H : Type) → List (DataW H) → Bool := fun _ ds => decide (uptoBulkAll ds ≤ 1048576)
def OpenSpec.upto (s : _root_.Go.ChangeSpec) : _root_.Go.OpenSpec := { _root_.Go.OpenSpec.ofChange s with cond := some uptoSmall }

/-- 'humpyardlaw.DecodeTells', WHERE WHAT IT READS IS OF BULK AT MOST 1048576: true; the input reads as it did. -/
def decodeTellsUptoRow : OpenClaim := { program := "ytpiohehijkpghaadoor", sum := "adf07bd2343339e24e1bfe6337ae8e821de230d8763c2cba00e1613782f1d47e", func := "humpyard/humpyardlaw.DecodeTells", spec := "decodeTells", named := ["humpyard/decode.forms"], apart := false, laid := [("humpyard/decode.forms", laid_humpyard_decode_forms)], narrowed := true }
def DecodeTellsUptoSaid : Prop := decodeTellsUptoRow.holds Tryd.pinned (OpenSpec.upto decodeTellsSpec)

/-- 'humpyardlaw.DecodeEncodes', WHERE WHAT IT READS IS OF BULK AT MOST 1048576: true; the input reads as it did. -/
def decodeEncodesUptoRow : OpenClaim := { program := "ytpiohehijkpghaadoor", sum := "adf07bd2343339e24e1bfe6337ae8e821de230d8763c2cba00e1613782f1d47e", func := "humpyard/humpyardlaw.DecodeEncodes", spec := "decodeEncodes", unfollowed := true, recurses := true, named := ["humpyard/decode.forms"], apart := false, laid := [("humpyard/decode.forms", laid_humpyard_decode_forms)], narrowed := true }
def DecodeEncodesUptoSaid : Prop := decodeEncodesUptoRow.holds Tryd.pinned (OpenSpec.upto decodeEncodesSpec)

/-- 'humpyardkeep.DecodeBack', WHERE WHAT IT READS IS OF BULK AT MOST 1048576: true; the input reads as it did. -/
def decodeBackUptoRow : OpenClaim := { program := "ytpiohehijkpghaadoor", sum := "adf07bd2343339e24e1bfe6337ae8e821de230d8763c2cba00e1613782f1d47e", func := "humpyard/humpyardkeep.DecodeBack", spec := "decodeBack", named := ["humpyard/decode.forms"], apart := false, laid := [("humpyard/decode.forms", laid_humpyard_decode_forms)], narrowed := true }
def DecodeBackUptoSaid : Prop := decodeBackUptoRow.holds Tryd.pinned (OpenSpec.upto decodeBackSpec)

/-- 'humpyardlaw.HartSteps', WHERE WHAT IT READS IS OF BULK AT MOST 1048576: true; the input reads as it did. -/
def hartStepsUptoRow : OpenClaim := { program := "ytpiohehijkpghaadoor", sum := "adf07bd2343339e24e1bfe6337ae8e821de230d8763c2cba00e1613782f1d47e", func := "humpyard/humpyardlaw.HartSteps", spec := "hartSteps", named := ["humpyard/decode.forms", "humpyard/hart.immediate"], apart := false, laid := [("humpyard/decode.forms", laid_humpyard_decode_forms), ("humpyard/hart.immediate", laid_humpyard_hart_immediate)], narrowed := true }
def HartStepsUptoSaid : Prop := hartStepsUptoRow.holds Tryd.pinned (OpenSpec.upto hartStepsSpec)

/-- 'humpyardkeep.HartTells', WHERE WHAT IT READS IS OF BULK AT MOST 1048576: true; the input reads as it did. -/
def hartTellsUptoRow : OpenClaim := { program := "ytpiohehijkpghaadoor", sum := "adf07bd2343339e24e1bfe6337ae8e821de230d8763c2cba00e1613782f1d47e", func := "humpyard/humpyardkeep.HartTells", spec := "hartTells", named := ["humpyard/decode.forms", "humpyard/hart.immediate"], apart := false, laid := [("humpyard/decode.forms", laid_humpyard_decode_forms), ("humpyard/hart.immediate", laid_humpyard_hart_immediate)], narrowed := true }
def HartTellsUptoSaid : Prop := hartTellsUptoRow.holds Tryd.pinned (OpenSpec.upto hartTellsSpec)

/-- 'humpyardlaw.ModelRuns', WHERE WHAT IT READS IS OF BULK AT MOST 1048576: true; the input reads as it did. -/
def modelRunsUptoRow : OpenClaim := { program := "ytpiohehijkpghaadoor", sum := "adf07bd2343339e24e1bfe6337ae8e821de230d8763c2cba00e1613782f1d47e", func := "humpyard/humpyardlaw.ModelRuns", spec := "modelRuns", named := ["humpyard/decode.forms", "humpyard/hart.immediate"], apart := false, laid := [("humpyard/decode.forms", laid_humpyard_decode_forms), ("humpyard/hart.immediate", laid_humpyard_hart_immediate)], narrowed := true }
def ModelRunsUptoSaid : Prop := modelRunsUptoRow.holds Tryd.pinned (OpenSpec.upto modelRunsSpec)

/-- 'humpyardkeep.ModelReplays', WHERE WHAT IT READS IS OF BULK AT MOST 1048576: true; the input reads as it did. -/
def modelReplaysUptoRow : OpenClaim := { program := "ytpiohehijkpghaadoor", sum := "adf07bd2343339e24e1bfe6337ae8e821de230d8763c2cba00e1613782f1d47e", func := "humpyard/humpyardkeep.ModelReplays", spec := "modelReplays", named := ["humpyard/decode.forms", "humpyard/hart.immediate"], apart := false, laid := [("humpyard/decode.forms", laid_humpyard_decode_forms), ("humpyard/hart.immediate", laid_humpyard_hart_immediate)], narrowed := true }
def ModelReplaysUptoSaid : Prop := modelReplaysUptoRow.holds Tryd.pinned (OpenSpec.upto modelReplaysSpec)

/-- 'humpyardkeep.ModelSplits', WHERE WHAT IT READS IS OF BULK AT MOST 1048576: true; the input reads as it did. -/
def modelSplitsUptoRow : OpenClaim := { program := "ytpiohehijkpghaadoor", sum := "adf07bd2343339e24e1bfe6337ae8e821de230d8763c2cba00e1613782f1d47e", func := "humpyard/humpyardkeep.ModelSplits", spec := "modelSplits", named := ["humpyard/decode.forms", "humpyard/hart.immediate"], apart := false, laid := [("humpyard/decode.forms", laid_humpyard_decode_forms), ("humpyard/hart.immediate", laid_humpyard_hart_immediate)], narrowed := true }
def ModelSplitsUptoSaid : Prop := modelSplitsUptoRow.holds Tryd.pinned (OpenSpec.upto modelSplitsSpec)

end Rows
end Go.Proofs.YtpiohehijkpghaaDoor
