/- What the document's reckoning of a hart comes to: whether it may be, and what a trap makes of it. -/
import Derived.Test.YtpiohehijkpghaaDoorDecW
import Derived.Deep.DeepMust
import Derived.OpenShut
namespace Go.Proofs.YtpiohehijkpghaaDoor
open Go.RowKit
open Hy
set_option linter.unusedVariables false

/-- A hart's cells. -/
abbrev hcs (R : Nat → Int) (pc st ca : Int) : Array Value := #[.int .u32 (R 0), .int .u32 (R 1), .int .u32 (R 2), .int .u32 (R 3), .int .u32 (R 4), .int .u32 (R 5), .int .u32 (R 6), .int .u32 (R 7), .int .u32 (R 8), .int .u32 (R 9), .int .u32 (R 10), .int .u32 (R 11), .int .u32 (R 12), .int .u32 (R 13), .int .u32 (R 14), .int .u32 (R 15), .int .u32 (R 16), .int .u32 (R 17), .int .u32 (R 18), .int .u32 (R 19), .int .u32 (R 20), .int .u32 (R 21), .int .u32 (R 22), .int .u32 (R 23), .int .u32 (R 24), .int .u32 (R 25), .int .u32 (R 26), .int .u32 (R 27), .int .u32 (R 28), .int .u32 (R 29), .int .u32 (R 30), .int .u32 (R 31), .int .u32 pc, .int .i64 st, .int .i64 ca]
/-- A hart by value. -/
abbrev hv (R : Nat → Int) (pc st ca : Int) : Value := .agg (hcs R pc st ca)

/-- Whether a hart may be. -/
def may (R : Nat → Int) (st ca : Int) : Bool := R 0 == 0 && (((st == 0 || st == 1) && ca == 0) || (st == 2 && decide (1 ≤ ca) && decide (ca ≤ 6)))

set_option maxRecDepth 20000 in
set_option maxHeartbeats 1000000 in
theorem qMay_any (R : Nat → Int) (pc st ca : Int) (w : World) :
    Calls Tryd.prog 16 #[hv R pc st ca] w fun e w' => e = .returned (.bool (may R st ca)) ∧ Below w.heap.size w w' := by
  go_enter Tryd.func16, Tryd.ntmps16
  go_wp2
  all_goals (go_ret; refine ⟨?_, (Below.refl _ _).alloc (Nat.le_refl _) _⟩)
  all_goals (simp_all [may]; try omega)
end Go.Proofs.YtpiohehijkpghaaDoor
