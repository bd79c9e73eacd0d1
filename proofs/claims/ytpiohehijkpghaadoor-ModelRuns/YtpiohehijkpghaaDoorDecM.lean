/- Plain facts on how words are read as instructions and written again. Nothing of the program is named here. -/
import Derived.WalkKit
import Derived.Laws.BitsAllLaws
namespace Go.Proofs.YtpiohehijkpghaaDoor.Hy
open Go.RowKit

/-- So many ones. -/
def msk (n : Int) : Int := ((2 : Int) ^ n.toNat % 4294967296 - 1) % 4294967296

def beg (k : Nat) : Int := if k = 0 then 1 else if k = 1 then 4096 else 33554432

/-- What an instruction is told by, out of its parts. -/
def tb (ps : Nat → Int) : Nat → Int
  | 0 => 0
  | k + 1 => bits .or .u32 (tb ps k) (ps k * beg k % 4294967296)
/-- A piece of the word, where it stands in the number. -/
def pc (x a m s : Int) : Int := bits .and .u32 (x / 2 ^ min a.toNat 32) (msk m) * 2 ^ min s.toNat 32 % 4294967296
/-- The bits of the number, as many pieces as were read. -/
def ib (c : Nat → Int) (x : Int) : Nat → Int
  | 0 => 0
  | j + 1 => bits .or .u32 (ib c x j) (pc x (c (5 + 3 * j)) (c (6 + 3 * j)) (c (7 + 3 * j)))

/-- The number that a form reads in a word. -/
def rim (c : Nat → Int) (x : Int) : Int := wrap32 (ib c x 4 * 2 ^ (c 4).toNat % 4294967296) / 2 ^ (c 4).toNat

/-- A register that a form reads in a word. -/
def rrg (x d m : Int) : Int := wrap64 (bits .and .u32 (x / d) m)

/-- The form of each instruction, and what it is told by, by its number. -/
def kfs : List Int := [0, 1, 1, 2, 3, 5, 5, 5, 5, 5, 5, 3, 3, 3, 3, 3, 6, 6, 6, 3, 3, 3, 3, 3, 3, 4, 4, 4, 7, 7, 7, 7, 7, 7, 7, 7, 7, 7, 7, 7, 7, 7, 7, 7, 7, 7, 3, 8, 8]
def kbs : List Int := [0, 55, 23, 111, 103, 99, 4195, 16483, 20579, 24675, 28771, 3, 4099, 8195, 16387, 20483, 35, 4131, 8227, 19, 8211, 12307, 16403, 24595, 28691, 4115, 20499, 1073762323, 51, 1073741875, 4147, 8243, 12339, 16435, 20531, 1073762355, 24627, 28723, 33554483, 33558579, 33562675, 33566771, 33570867, 33574963, 33579059, 33583155, 15, 115, 1048691]
def kf (n : Nat) : Int := kfs.getD n 0
def kb (n : Nat) : Int := kbs.getD n 0
end Go.Proofs.YtpiohehijkpghaaDoor.Hy
namespace Go.Proofs.YtpiohehijkpghaaDoor.Hy
open Go.RowKit

/-- The registers of an instruction, where a form writes them. -/
def wrg (c : Nat → Int) (rd rs1 rs2 : Int) : Int :=
  bits .or .u32 (bits .or .u32 (bits .and .u32 (rd % 4294967296) (c 1) * 128 % 4294967296) (bits .and .u32 (rs1 % 4294967296) (c 2) * 32768 % 4294967296)) (bits .and .u32 (rs2 % 4294967296) (c 3) * 1048576 % 4294967296)
/-- The word, as many pieces as were written. -/
def wb (c : Nat → Int) (rd rs1 rs2 imm : Int) : Nat → Int
  | 0 => wrg c rd rs1 rs2
  | j + 1 => bits .or .u32 (wb c rd rs1 rs2 imm j) (pc (imm % 4294967296) (c (7 + 3 * j)) (c (6 + 3 * j)) (c (5 + 3 * j)))
end Go.Proofs.YtpiohehijkpghaaDoor.Hy
namespace Go.Proofs.YtpiohehijkpghaaDoor.Hy
open Go.RowKit

def ftab : List Int := [0, 0, 0, 0, 0, 0, 0, 0, 0, 0, 0, 0, 0, 0, 0, 0, 0, 127, 31, 0, 0, 0, 12, 20, 12, 0, 0, 0, 0, 0, 0, 0, 0, 0, 127, 31, 0, 0, 11, 31, 1, 20, 12, 8, 12, 20, 1, 11, 21, 10, 1, 28799, 31, 31, 0, 20, 20, 12, 0, 0, 0, 0, 0, 0, 0, 0, 0, 0, 4261441663, 31, 31, 0, 0, 20, 5, 0, 0, 0, 0, 0, 0, 0, 0, 0, 0, 28799, 0, 31, 31, 19, 31, 1, 12, 7, 1, 11, 25, 6, 5, 8, 4, 1, 28799, 0, 31, 31, 20, 25, 7, 5, 7, 5, 0, 0, 0, 0, 0, 0, 0, 4261441663, 31, 31, 31, 0, 0, 0, 0, 0, 0, 0, 0, 0, 0, 0, 0, 0, 4294967295, 0, 0, 0, 0, 0, 0, 0, 0, 0, 0, 0, 0, 0, 0, 0, 0]
/-- The cells of a form. -/
def fm (f : Nat) (j : Nat) : Int := if j < 17 then ftab.getD (f * 17 + j) 0 else 0

theorem fm_bound (f : Nat) (hf : f < 9) (j : Nat) (hj : 1 ≤ j) : 0 ≤ fm f j ∧ fm f j ≤ 31 := by
  by_cases h : j < 17
  · have : ∀ f, f < 9 → ∀ j, j < 17 → 1 ≤ j → 0 ≤ fm f j ∧ fm f j ≤ 31 := by decide
    exact this f hf j h hj
  · simp [fm, h]

/-- The form of an instruction as a number from 0 on. -/
def kn (n : Nat) : Nat := (kf n).toNat
theorem kn_lt : ∀ n, n < 49 → kn n < 9 ∧ kf n = (kn n : Int) ∧ (1 ≤ n → 1 ≤ kn n) := by decide
theorem kb_range : ∀ n, n < 49 → 0 ≤ kb n ∧ kb n ≤ 4294967295 := by decide
theorem told_range : ∀ f, f < 9 → 0 ≤ fm f 0 ∧ fm f 0 ≤ 4294967295 := by decide

/-- A word is told to be an instruction. -/
def hit (n : Nat) (x : Int) : Bool := bits .and .u32 x (fm (kn n) 0) == kb n
end Go.Proofs.YtpiohehijkpghaaDoor.Hy
