/-
  NARROWER THAN 'FOR EVERY INPUT', by the rows' own cells (each row's printed sentence says how): CoreSame: laid · CoreGoes: laid.
  DERIVED. THE GIVEN ROWS OF THIS SEAT. 2 by the template 'for every input the law returns true; each argument reads behind the call as it read before'; 0 by the template 'total and deterministic' (their statements: YtpiohehijkpghabGreatDoorTotals.lean).
  GIVEN WITH THE SEED: the statements are not yours to turn. If you find one false, say at which input.
  Laid BY PROGRAM, IN A SANDBOX (cutbox-rows.mjs): the forced cells as the released guide's own fill.sh prints them over the translation 00a04f9e7160b431… (all of the seat's roots in one cut). By AI agents, Wed Nov 11 2026. No macro, syntax, notation, axiom, sorry.
-/
import Derived.Test.YtpiohehijkpghabGreatDoorChecked
import GoSem.Claim
import GoSem.ClaimJoined
import GoSem.ClaimMapViews
import Derived.JoinedTies
import Derived.KernelRfl
namespace Go.Proofs.YtpiohehijkpghabGreatDoor
/- THE CELL 'sum', in the pinned program and in every row, IS THE sha256 OF THE DUMP (.gsa) THAT YtpiohehijkpghabGreatDoorProg.lean LOADS. Nothing in Lean hashes anything: it is a label: what it is worth is what the hold of that sum in a sandbox is worth. -/
noncomputable def Tryz.pinned : Pinned := { name := "ytpiohehijkpghabgreatdoor", sum := "00a04f9e7160b4318e6f58dd23c9d2927fe6bc205bd1de72e677e490dcd8ae12", checked := Tryz.checked }
namespace Rows
def none {H : Type} : Left H := { results := [], args := [] }

/- WHAT THE LISTED PACKAGE-LEVEL VARIABLES READ AS WHEN THE CALL BEGINS. Each datum BY PROGRAM (the guide's laid-datum.mjs) off the statement by which the dump's own 'gosem.cut.vars' lays the variable. In a bare row this is a premise. The card (YtpiohehijkpghabGreatDoorCards.lean) ties it to the program's text. -/
def laid_humpyard_decode_forms {H : Type} : DataW H := .agg [.agg [.lit (.int .u32 0), .lit (.int .u32 0), .lit (.int .u32 0), .lit (.int .u32 0), .lit (.int .u32 0), .agg [.agg [.lit (.int .u32 0), .lit (.int .u32 0), .lit (.int .u32 0)], .agg [.lit (.int .u32 0), .lit (.int .u32 0), .lit (.int .u32 0)], .agg [.lit (.int .u32 0), .lit (.int .u32 0), .lit (.int .u32 0)], .agg [.lit (.int .u32 0), .lit (.int .u32 0), .lit (.int .u32 0)]]], .agg [.lit (.int .u32 127), .lit (.int .u32 31), .lit (.int .u32 0), .lit (.int .u32 0), .lit (.int .u32 0), .agg [.agg [.lit (.int .u32 12), .lit (.int .u32 20), .lit (.int .u32 12)], .agg [.lit (.int .u32 0), .lit (.int .u32 0), .lit (.int .u32 0)], .agg [.lit (.int .u32 0), .lit (.int .u32 0), .lit (.int .u32 0)], .agg [.lit (.int .u32 0), .lit (.int .u32 0), .lit (.int .u32 0)]]], .agg [.lit (.int .u32 127), .lit (.int .u32 31), .lit (.int .u32 0), .lit (.int .u32 0), .lit (.int .u32 11), .agg [.agg [.lit (.int .u32 31), .lit (.int .u32 1), .lit (.int .u32 20)], .agg [.lit (.int .u32 12), .lit (.int .u32 8), .lit (.int .u32 12)], .agg [.lit (.int .u32 20), .lit (.int .u32 1), .lit (.int .u32 11)], .agg [.lit (.int .u32 21), .lit (.int .u32 10), .lit (.int .u32 1)]]], .agg [.lit (.int .u32 28799), .lit (.int .u32 31), .lit (.int .u32 31), .lit (.int .u32 0), .lit (.int .u32 20), .agg [.agg [.lit (.int .u32 20), .lit (.int .u32 12), .lit (.int .u32 0)], .agg [.lit (.int .u32 0), .lit (.int .u32 0), .lit (.int .u32 0)], .agg [.lit (.int .u32 0), .lit (.int .u32 0), .lit (.int .u32 0)], .agg [.lit (.int .u32 0), .lit (.int .u32 0), .lit (.int .u32 0)]]], .agg [.lit (.int .u32 4261441663), .lit (.int .u32 31), .lit (.int .u32 31), .lit (.int .u32 0), .lit (.int .u32 0), .agg [.agg [.lit (.int .u32 20), .lit (.int .u32 5), .lit (.int .u32 0)], .agg [.lit (.int .u32 0), .lit (.int .u32 0), .lit (.int .u32 0)], .agg [.lit (.int .u32 0), .lit (.int .u32 0), .lit (.int .u32 0)], .agg [.lit (.int .u32 0), .lit (.int .u32 0), .lit (.int .u32 0)]]], .agg [.lit (.int .u32 28799), .lit (.int .u32 0), .lit (.int .u32 31), .lit (.int .u32 31), .lit (.int .u32 19), .agg [.agg [.lit (.int .u32 31), .lit (.int .u32 1), .lit (.int .u32 12)], .agg [.lit (.int .u32 7), .lit (.int .u32 1), .lit (.int .u32 11)], .agg [.lit (.int .u32 25), .lit (.int .u32 6), .lit (.int .u32 5)], .agg [.lit (.int .u32 8), .lit (.int .u32 4), .lit (.int .u32 1)]]], .agg [.lit (.int .u32 28799), .lit (.int .u32 0), .lit (.int .u32 31), .lit (.int .u32 31), .lit (.int .u32 20), .agg [.agg [.lit (.int .u32 25), .lit (.int .u32 7), .lit (.int .u32 5)], .agg [.lit (.int .u32 7), .lit (.int .u32 5), .lit (.int .u32 0)], .agg [.lit (.int .u32 0), .lit (.int .u32 0), .lit (.int .u32 0)], .agg [.lit (.int .u32 0), .lit (.int .u32 0), .lit (.int .u32 0)]]], .agg [.lit (.int .u32 4261441663), .lit (.int .u32 31), .lit (.int .u32 31), .lit (.int .u32 31), .lit (.int .u32 0), .agg [.agg [.lit (.int .u32 0), .lit (.int .u32 0), .lit (.int .u32 0)], .agg [.lit (.int .u32 0), .lit (.int .u32 0), .lit (.int .u32 0)], .agg [.lit (.int .u32 0), .lit (.int .u32 0), .lit (.int .u32 0)], .agg [.lit (.int .u32 0), .lit (.int .u32 0), .lit (.int .u32 0)]]], .agg [.lit (.int .u32 4294967295), .lit (.int .u32 0), .lit (.int .u32 0), .lit (.int .u32 0), .lit (.int .u32 0), .agg [.agg [.lit (.int .u32 0), .lit (.int .u32 0), .lit (.int .u32 0)], .agg [.lit (.int .u32 0), .lit (.int .u32 0), .lit (.int .u32 0)], .agg [.lit (.int .u32 0), .lit (.int .u32 0), .lit (.int .u32 0)], .agg [.lit (.int .u32 0), .lit (.int .u32 0), .lit (.int .u32 0)]]]]
def laid_humpyard_hart_immediate {H : Type} : DataW H := .agg [.lit (.int .i64 0), .lit (.int .i64 0), .lit (.int .i64 0), .lit (.int .i64 0), .lit (.int .i64 0), .lit (.int .i64 0), .lit (.int .i64 0), .lit (.int .i64 0), .lit (.int .i64 0), .lit (.int .i64 0), .lit (.int .i64 0), .lit (.int .i64 0), .lit (.int .i64 0), .lit (.int .i64 0), .lit (.int .i64 0), .lit (.int .i64 0), .lit (.int .i64 0), .lit (.int .i64 0), .lit (.int .i64 0), .lit (.int .i64 28), .lit (.int .i64 31), .lit (.int .i64 32), .lit (.int .i64 33), .lit (.int .i64 36), .lit (.int .i64 37), .lit (.int .i64 30), .lit (.int .i64 34), .lit (.int .i64 35), .lit (.int .i64 0), .lit (.int .i64 0), .lit (.int .i64 0), .lit (.int .i64 0), .lit (.int .i64 0), .lit (.int .i64 0), .lit (.int .i64 0), .lit (.int .i64 0), .lit (.int .i64 0), .lit (.int .i64 0), .lit (.int .i64 0), .lit (.int .i64 0), .lit (.int .i64 0), .lit (.int .i64 0), .lit (.int .i64 0), .lit (.int .i64 0), .lit (.int .i64 0), .lit (.int .i64 0), .lit (.int .i64 0), .lit (.int .i64 0), .lit (.int .i64 0)]

/-- 'humpyardlaw.CoreSame': WHATEVER THE INPUT: true; the input reads as it did. -/
def coreSameSpec : ChangeSpec := { name := "coreSame", fn := fun _ => fun
  | [d1, d2, d3, d4, d5] => { results := [.lit (.bool true)], args := [d1, d2, d3, d4, d5] }
  | _ => none }
def coreSameRow : OpenClaim := { program := "ytpiohehijkpghabgreatdoor", sum := "00a04f9e7160b4318e6f58dd23c9d2927fe6bc205bd1de72e677e490dcd8ae12", func := "humpyard/humpyardlaw.CoreSame", spec := "coreSame", unfollowed := true, recurses := true, named := ["humpyard/hart.immediate", "humpyard/decode.forms"], apart := false, laid := [("humpyard/decode.forms", laid_humpyard_decode_forms), ("humpyard/hart.immediate", laid_humpyard_hart_immediate)] }
def CoreSameSaid : Prop := coreSameRow.holds Tryz.pinned (OpenSpec.ofChange coreSameSpec)

/-- ITS FALSE NEIGHBOUR: 'it returns false'. Refute it at one input. -/
def coreSameWrong : ChangeSpec := { name := "coreSame", fn := fun _ => fun
  | [d1, d2, d3, d4, d5] => { results := [.lit (.bool false)], args := [d1, d2, d3, d4, d5] }
  | _ => none }
def CoreSameWrongFalsely : Prop := coreSameRow.holds Tryz.pinned (OpenSpec.ofChange coreSameWrong)

/-- 'humpyardlaw.CoreGoes': WHATEVER THE INPUT: true; the input reads as it did. -/
def coreGoesSpec : ChangeSpec := { name := "coreGoes", fn := fun _ => fun
  | [d1, d2, d3, d4, d5] => { results := [.lit (.bool true)], args := [d1, d2, d3, d4, d5] }
  | _ => none }
def coreGoesRow : OpenClaim := { program := "ytpiohehijkpghabgreatdoor", sum := "00a04f9e7160b4318e6f58dd23c9d2927fe6bc205bd1de72e677e490dcd8ae12", func := "humpyard/humpyardlaw.CoreGoes", spec := "coreGoes", unfollowed := true, recurses := true, named := ["humpyard/hart.immediate", "humpyard/decode.forms"], apart := false, laid := [("humpyard/decode.forms", laid_humpyard_decode_forms), ("humpyard/hart.immediate", laid_humpyard_hart_immediate)] }
def CoreGoesSaid : Prop := coreGoesRow.holds Tryz.pinned (OpenSpec.ofChange coreGoesSpec)

/-- ITS FALSE NEIGHBOUR: 'it returns false'. Refute it at one input. -/
def coreGoesWrong : ChangeSpec := { name := "coreGoes", fn := fun _ => fun
  | [d1, d2, d3, d4, d5] => { results := [.lit (.bool false)], args := [d1, d2, d3, d4, d5] }
  | _ => none }
def CoreGoesWrongFalsely : Prop := coreGoesRow.holds Tryz.pinned (OpenSpec.ofChange coreGoesWrong)

/- THE SECOND FORM. 'bulk': how many values and letters a reading holds, each counted each time it is reached (what is shared counts as often as it is met; a slice's spare places count too). A statement '..UptoSaid' is the law's where the arguments, and the package variables that the reading takes, are together of bulk at most 1048576: NARROWER than '..Said'. Prove '..Said' where nothing that the law and all that it calls make is longer than what came in: it says more and counts as full. Else prove '..UptoSaid'. A law counts once. -/
mutual
def uptoBulk {H : Type} : DataW H → Nat
  | .lit (.string bytes) => bytes.length + 1
  | .lit _ => 1
  | .nil => 1
  | .ptr d => uptoBulk d + 1
  | .slice elems spare => uptoBulkAll elems + uptoBulkAll spare + 1
  | .agg parts => uptoBulkAll parts + 1
  | .iface _ d => uptoBulk d + 1
  | .map entries => uptoBulkEntries entries + 1
  | .held _ => 1
def uptoBulkAll {H : Type} : List (DataW H) → Nat
  | [] => 0
  | d :: r => uptoBulk d + uptoBulkAll r
def uptoBulkEntries {H : Type} : List (Lit × DataW H) → Nat
  | [] => 0
  | x :: r => uptoBulkEntry x + uptoBulkEntries r
def uptoBulkEntry {H : Type} : Lit × DataW H → Nat
  | (.string bytes, d) => bytes.length + uptoBulk d + 1
  | (_, d) => uptoBulk d + 1
 end
def uptoSmall : (H : Type) → List (DataW H) → Bool := fun _ ds => decide (uptoBulkAll ds ≤ 1048576)
def OpenSpec.upto (s : _root_.Go.ChangeSpec) : _root_.Go.OpenSpec := { _root_.Go.OpenSpec.ofChange s with cond := some uptoSmall }

/-- 'humpyardlaw.CoreSame', WHERE WHAT IT READS IS OF BULK AT MOST 1048576: true; the input reads as it did. -/
def coreSameUptoRow : OpenClaim := { program := "ytpiohehijkpghabgreatdoor", sum := "00a04f9e7160b4318e6f58dd23c9d2927fe6bc205bd1de72e677e490dcd8ae12", func := "humpyard/humpyardlaw.CoreSame", spec := "coreSame", unfollowed := true, recurses := true, named := ["humpyard/hart.immediate", "humpyard/decode.forms"], apart := false, laid := [("humpyard/decode.forms", laid_humpyard_decode_forms), ("humpyard/hart.immediate", laid_humpyard_hart_immediate)], narrowed := true }
def CoreSameUptoSaid : Prop := coreSameUptoRow.holds Tryz.pinned (OpenSpec.upto coreSameSpec)

/-- 'humpyardlaw.CoreGoes', WHERE WHAT IT READS IS OF BULK AT MOST 1048576: true; the input reads as it did. -/
def coreGoesUptoRow : OpenClaim := { program := "ytpiohehijkpghabgreatdoor", sum := "00a04f9e7160b4318e6f58dd23c9d2927fe6bc205bd1de72e677e490dcd8ae12", func := "humpyard/humpyardlaw.CoreGoes", spec := "coreGoes", unfollowed := true, recurses := true, named := ["humpyard/hart.immediate", "humpyard/decode.forms"], apart := false, laid := [("humpyard/decode.forms", laid_humpyard_decode_forms), ("humpyard/hart.immediate", laid_humpyard_hart_immediate)], narrowed := true }
def CoreGoesUptoSaid : Prop := coreGoesUptoRow.holds Tryz.pinned (OpenSpec.upto coreGoesSpec)

end Rows
end Go.Proofs.YtpiohehijkpghabGreatDoor
