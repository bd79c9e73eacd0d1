/- Plain facts on how words are read as instructions and written again. Nothing of the program is named here. -/
import Derived.WalkKit
import Derived.Laws.BitsAllLaws
namespace Go.Proofs.Ytpiohehijkpghaa.Hy
open Go.RowKit

/-- So many ones. -/
def msk (n : Int) : Int := ((2 : Int) ^ n.toNat % 4294967296 - 1) % 4294967296

def beg (k : Nat) : Int := if k = 0 then 1 else if k = 1 then 4096 else 33554432

/-- What an instruction is told by, out of its parts. -/
def tb (ps : Nat → Int) : Nat → Int
  | 0 => 0
  | k + 1 => bits .or .u32 (tb ps k) (ps k * beg k % 4294967296)
/-- A piece of the word, where it stands in the number. -/
def pc (x a m s : Int) : Int := bits .and .u32 (x / 2 ^ min a.toNat 32) (msk m) * 2 ^ min s.toNat 32 % 4294967296
/-- The bits of the number, as many pieces as were read. -/
def ib (c : Nat → Int) (x : Int) : Nat → Int
  | 0 => 0
  | j + 1 => bits .or .u32 (ib c x j) (pc x (c (5 + 3 * j)) (c (6 + 3 * j)) (c (7 + 3 * j)))

/-- The number that a form reads in a word. -/
def rim (c : Nat → Int) (x : Int) : Int := wrap32 (ib c x 4 * 2 ^ (c 4).toNat % 4294967296) / 2 ^ (c 4).toNat

/-- A register that a form reads in a word. -/
def rrg (x d m : Int) : Int := wrap64 (bits .and .u32 (x / d) m)

/-- The form of each instruction, and what it is told by, by its number. -/
def kfs : List Int := [0, 1, 1, 2, 3, 5, 5, 5, 5, 5, 5, 3, 3, 3, 3, 3, 6, 6, 6, 3, 3, 3, 3, 3, 3, 4, 4, 4, 7, 7, 7, 7, 7, 7, 7, 7, 7, 7, 7, 7, 7, 7, 7, 7, 7, 7, 3, 8, 8]
def kbs : List Int := [0, 55, 23, 111, 103, 99, 4195, 16483, 20579, 24675, 28771, 3, 4099, 8195, 16387, 20483, 35, 4131, 8227, 19, 8211, 12307, 16403, 24595, 28691, 4115, 20499, 1073762323, 51, 1073741875, 4147, 8243, 12339, 16435, 20531, 1073762355, 24627, 28723, 33554483, 33558579, 33562675, 33566771, 33570867, 33574963, 33579059, 33583155, 15, 115, 1048691]
def kf (n : Nat) : Int := kfs.getD n 0
def kb (n : Nat) : Int := kbs.getD n 0
end Go.Proofs.Ytpiohehijkpghaa.Hy
