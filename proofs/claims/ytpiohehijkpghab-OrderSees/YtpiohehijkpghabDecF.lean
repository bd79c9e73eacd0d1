/- The table of forms, as the program's text lays it: for each form the bits it is told by, its registers, its sign and its pieces. Nothing of the program is named here. -/
import Derived.Test.YtpiohehijkpghabDecN
namespace Go.Proofs.Ytpiohehijkpghab.Hy
open Go.RowKit

def ftab : List Int := [0, 0, 0, 0, 0, 0, 0, 0, 0, 0, 0, 0, 0, 0, 0, 0, 0, 127, 31, 0, 0, 0, 12, 20, 12, 0, 0, 0, 0, 0, 0, 0, 0, 0, 127, 31, 0, 0, 11, 31, 1, 20, 12, 8, 12, 20, 1, 11, 21, 10, 1, 28799, 31, 31, 0, 20, 20, 12, 0, 0, 0, 0, 0, 0, 0, 0, 0, 0, 4261441663, 31, 31, 0, 0, 20, 5, 0, 0, 0, 0, 0, 0, 0, 0, 0, 0, 28799, 0, 31, 31, 19, 31, 1, 12, 7, 1, 11, 25, 6, 5, 8, 4, 1, 28799, 0, 31, 31, 20, 25, 7, 5, 7, 5, 0, 0, 0, 0, 0, 0, 0, 4261441663, 31, 31, 31, 0, 0, 0, 0, 0, 0, 0, 0, 0, 0, 0, 0, 0, 4294967295, 0, 0, 0, 0, 0, 0, 0, 0, 0, 0, 0, 0, 0, 0, 0, 0]
/-- The cells of a form. -/
def fm (f : Nat) (j : Nat) : Int := if j < 17 then ftab.getD (f * 17 + j) 0 else 0

theorem fm_bound (f : Nat) (hf : f < 9) (j : Nat) (hj : 1 ≤ j) : 0 ≤ fm f j ∧ fm f j ≤ 31 := by
  by_cases h : j < 17
  · have : ∀ f, f < 9 → ∀ j, j < 17 → 1 ≤ j → 0 ≤ fm f j ∧ fm f j ≤ 31 := by decide
    exact this f hf j h hj
  · simp [fm, h]

/-- The form of an instruction as a number from 0 on. -/
def kn (n : Nat) : Nat := (kf n).toNat
theorem kn_lt : ∀ n, n < 49 → kn n < 9 ∧ kf n = (kn n : Int) ∧ (1 ≤ n → 1 ≤ kn n) := by decide
theorem kb_range : ∀ n, n < 49 → 0 ≤ kb n ∧ kb n ≤ 4294967295 := by decide
theorem told_range : ∀ f, f < 9 → 0 ≤ fm f 0 ∧ fm f 0 ≤ 4294967295 := by decide

/-- A word is told to be an instruction. -/
def hit (n : Nat) (x : Int) : Bool := bits .and .u32 x (fm (kn n) 0) == kb n
end Go.Proofs.Ytpiohehijkpghab.Hy
