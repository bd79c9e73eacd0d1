/- Plain facts on how instructions are written as words. Nothing of the program is named here. -/
import Derived.Test.YtpiohehijkpghabDecM
namespace Go.Proofs.Ytpiohehijkpghab.Hy
open Go.RowKit

/-- The registers of an instruction, where a form writes them. -/
def wrg (c : Nat → Int) (rd rs1 rs2 : Int) : Int :=
  bits .or .u32 (bits .or .u32 (bits .and .u32 (rd % 4294967296) (c 1) * 128 % 4294967296) (bits .and .u32 (rs1 % 4294967296) (c 2) * 32768 % 4294967296)) (bits .and .u32 (rs2 % 4294967296) (c 3) * 1048576 % 4294967296)
/-- The word, as many pieces as were written. -/
def wb (c : Nat → Int) (rd rs1 rs2 imm : Int) : Nat → Int
  | 0 => wrg c rd rs1 rs2
  | j + 1 => bits .or .u32 (wb c rd rs1 rs2 imm j) (pc (imm % 4294967296) (c (7 + 3 * j)) (c (6 + 3 * j)) (c (5 + 3 * j)))
end Go.Proofs.Ytpiohehijkpghab.Hy
