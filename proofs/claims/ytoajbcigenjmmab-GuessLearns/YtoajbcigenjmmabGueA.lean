/- What was learnt, as plain functions: counters and values; what learning makes of them. Nothing of the program is named here. -/
import Derived.WalkKit
namespace Go.Proofs.Ytoajbcigenjmmab.Hy
open Go.RowKit
set_option linter.unusedVariables false

/-- What was learnt: of branches Level and Target, of values PC, Last, Stride and Sure. -/
structure Tb where
  L : Nat → Int
  G : Nat → Int
  P : Nat → Int
  A : Nat → Int
  S : Nat → Int
  U : Nat → Int
/-- Its cells. -/
abbrev tcs (t : Tb) : Array Value := #[.int .i64 (t.L 0), .int .u32 (t.G 0), .int .i64 (t.L 1), .int .u32 (t.G 1), .int .i64 (t.L 2), .int .u32 (t.G 2), .int .i64 (t.L 3), .int .u32 (t.G 3), .int .i64 (t.L 4), .int .u32 (t.G 4), .int .i64 (t.L 5), .int .u32 (t.G 5), .int .i64 (t.L 6), .int .u32 (t.G 6), .int .i64 (t.L 7), .int .u32 (t.G 7), .int .i64 (t.L 8), .int .u32 (t.G 8), .int .i64 (t.L 9), .int .u32 (t.G 9), .int .i64 (t.L 10), .int .u32 (t.G 10), .int .i64 (t.L 11), .int .u32 (t.G 11), .int .i64 (t.L 12), .int .u32 (t.G 12), .int .i64 (t.L 13), .int .u32 (t.G 13), .int .i64 (t.L 14), .int .u32 (t.G 14), .int .i64 (t.L 15), .int .u32 (t.G 15), .int .u32 (t.P 0), .int .u32 (t.A 0), .int .u32 (t.S 0), .int .i64 (t.U 0), .int .u32 (t.P 1), .int .u32 (t.A 1), .int .u32 (t.S 1), .int .i64 (t.U 1), .int .u32 (t.P 2), .int .u32 (t.A 2), .int .u32 (t.S 2), .int .i64 (t.U 2), .int .u32 (t.P 3), .int .u32 (t.A 3), .int .u32 (t.S 3), .int .i64 (t.U 3), .int .u32 (t.P 4), .int .u32 (t.A 4), .int .u32 (t.S 4), .int .i64 (t.U 4), .int .u32 (t.P 5), .int .u32 (t.A 5), .int .u32 (t.S 5), .int .i64 (t.U 5), .int .u32 (t.P 6), .int .u32 (t.A 6), .int .u32 (t.S 6), .int .i64 (t.U 6), .int .u32 (t.P 7), .int .u32 (t.A 7), .int .u32 (t.S 7), .int .i64 (t.U 7)]
def bnd (n : Int) : Int := if n < 0 then 0 else if 3 < n then 3 else n
def up (f : Nat → Int) (k : Nat) (x : Int) (j : Nat) : Int := if j = k then x else f j
theorem up_at (f : Nat → Int) (k : Nat) (x : Int) : up f k x k = x := if_pos rfl
theorem up_up (f : Nat → Int) (k : Nat) (x y : Int) : up (up f k x) k y = up f k y := by
  funext j
  unfold up
  split <;> rfl
theorem up_id (f : Nat → Int) (k : Nat) : up f k (f k) = f := by
  funext j
  unfold up
  split
  · rename_i h; rw [h]
  · rfl
/-- Behind a branch. -/
def learnB (t : Tb) (k : Nat) (taken : Bool) (g : Int) : Tb :=
  if taken then { t with L := up t.L k (bnd (bnd (t.L k) + 1)), G := up t.G k g } else { t with L := up t.L k (bnd (bnd (t.L k) - 1)) }
/-- Behind a word. -/
def learnV (t : Tb) (k : Nat) (pc n : Int) : Tb :=
  if t.P k = pc then
    if n = (t.A k + t.S k) % 4294967296 then { t with U := up t.U k (bnd (bnd (t.U k) + 1)), A := up t.A k n }
    else { t with U := up t.U k 0, S := up t.S k ((n - t.A k) % 4294967296), A := up t.A k n }
  else { t with P := up t.P k pc, A := up t.A k n, S := up t.S k 0, U := up t.U k 0 }

theorem tcs_L (t : Tb) (k : Nat) (h : k < 16) : (tcs t)[k * 2]? = some (.int .i64 (t.L k)) :=
  match k, h with
  | 0, _ => rfl
  | 1, _ => rfl
  | 2, _ => rfl
  | 3, _ => rfl
  | 4, _ => rfl
  | 5, _ => rfl
  | 6, _ => rfl
  | 7, _ => rfl
  | 8, _ => rfl
  | 9, _ => rfl
  | 10, _ => rfl
  | 11, _ => rfl
  | 12, _ => rfl
  | 13, _ => rfl
  | 14, _ => rfl
  | 15, _ => rfl
  | n + 16, h => absurd h (by omega)
theorem set_L (t : Tb) (x : Int) (k : Nat) (h : k < 16) : (tcs t).setIfInBounds (k * 2) (.int .i64 x) = tcs { t with L := up t.L k x } :=
  match k, h with
  | 0, _ => rfl
  | 1, _ => rfl
  | 2, _ => rfl
  | 3, _ => rfl
  | 4, _ => rfl
  | 5, _ => rfl
  | 6, _ => rfl
  | 7, _ => rfl
  | 8, _ => rfl
  | 9, _ => rfl
  | 10, _ => rfl
  | 11, _ => rfl
  | 12, _ => rfl
  | 13, _ => rfl
  | 14, _ => rfl
  | 15, _ => rfl
  | n + 16, h => absurd h (by omega)
theorem tcs_G (t : Tb) (k : Nat) (h : k < 16) : (tcs t)[k * 2 + 1]? = some (.int .u32 (t.G k)) :=
  match k, h with
  | 0, _ => rfl
  | 1, _ => rfl
  | 2, _ => rfl
  | 3, _ => rfl
  | 4, _ => rfl
  | 5, _ => rfl
  | 6, _ => rfl
  | 7, _ => rfl
  | 8, _ => rfl
  | 9, _ => rfl
  | 10, _ => rfl
  | 11, _ => rfl
  | 12, _ => rfl
  | 13, _ => rfl
  | 14, _ => rfl
  | 15, _ => rfl
  | n + 16, h => absurd h (by omega)
theorem set_G (t : Tb) (x : Int) (k : Nat) (h : k < 16) : (tcs t).setIfInBounds (k * 2 + 1) (.int .u32 x) = tcs { t with G := up t.G k x } :=
  match k, h with
  | 0, _ => rfl
  | 1, _ => rfl
  | 2, _ => rfl
  | 3, _ => rfl
  | 4, _ => rfl
  | 5, _ => rfl
  | 6, _ => rfl
  | 7, _ => rfl
  | 8, _ => rfl
  | 9, _ => rfl
  | 10, _ => rfl
  | 11, _ => rfl
  | 12, _ => rfl
  | 13, _ => rfl
  | 14, _ => rfl
  | 15, _ => rfl
  | n + 16, h => absurd h (by omega)
theorem tcs_P (t : Tb) (k : Nat) (h : k < 8) : (tcs t)[32 + k * 4]? = some (.int .u32 (t.P k)) :=
  match k, h with
  | 0, _ => rfl
  | 1, _ => rfl
  | 2, _ => rfl
  | 3, _ => rfl
  | 4, _ => rfl
  | 5, _ => rfl
  | 6, _ => rfl
  | 7, _ => rfl
  | n + 8, h => absurd h (by omega)
theorem set_P (t : Tb) (x : Int) (k : Nat) (h : k < 8) : (tcs t).setIfInBounds (32 + k * 4) (.int .u32 x) = tcs { t with P := up t.P k x } :=
  match k, h with
  | 0, _ => rfl
  | 1, _ => rfl
  | 2, _ => rfl
  | 3, _ => rfl
  | 4, _ => rfl
  | 5, _ => rfl
  | 6, _ => rfl
  | 7, _ => rfl
  | n + 8, h => absurd h (by omega)
theorem tcs_A (t : Tb) (k : Nat) (h : k < 8) : (tcs t)[32 + k * 4 + 1]? = some (.int .u32 (t.A k)) :=
  match k, h with
  | 0, _ => rfl
  | 1, _ => rfl
  | 2, _ => rfl
  | 3, _ => rfl
  | 4, _ => rfl
  | 5, _ => rfl
  | 6, _ => rfl
  | 7, _ => rfl
  | n + 8, h => absurd h (by omega)
theorem set_A (t : Tb) (x : Int) (k : Nat) (h : k < 8) : (tcs t).setIfInBounds (32 + k * 4 + 1) (.int .u32 x) = tcs { t with A := up t.A k x } :=
  match k, h with
  | 0, _ => rfl
  | 1, _ => rfl
  | 2, _ => rfl
  | 3, _ => rfl
  | 4, _ => rfl
  | 5, _ => rfl
  | 6, _ => rfl
  | 7, _ => rfl
  | n + 8, h => absurd h (by omega)
theorem tcs_S (t : Tb) (k : Nat) (h : k < 8) : (tcs t)[32 + k * 4 + 2]? = some (.int .u32 (t.S k)) :=
  match k, h with
  | 0, _ => rfl
  | 1, _ => rfl
  | 2, _ => rfl
  | 3, _ => rfl
  | 4, _ => rfl
  | 5, _ => rfl
  | 6, _ => rfl
  | 7, _ => rfl
  | n + 8, h => absurd h (by omega)
theorem set_S (t : Tb) (x : Int) (k : Nat) (h : k < 8) : (tcs t).setIfInBounds (32 + k * 4 + 2) (.int .u32 x) = tcs { t with S := up t.S k x } :=
  match k, h with
  | 0, _ => rfl
  | 1, _ => rfl
  | 2, _ => rfl
  | 3, _ => rfl
  | 4, _ => rfl
  | 5, _ => rfl
  | 6, _ => rfl
  | 7, _ => rfl
  | n + 8, h => absurd h (by omega)
theorem tcs_U (t : Tb) (k : Nat) (h : k < 8) : (tcs t)[32 + k * 4 + 3]? = some (.int .i64 (t.U k)) :=
  match k, h with
  | 0, _ => rfl
  | 1, _ => rfl
  | 2, _ => rfl
  | 3, _ => rfl
  | 4, _ => rfl
  | 5, _ => rfl
  | 6, _ => rfl
  | 7, _ => rfl
  | n + 8, h => absurd h (by omega)
theorem set_U (t : Tb) (x : Int) (k : Nat) (h : k < 8) : (tcs t).setIfInBounds (32 + k * 4 + 3) (.int .i64 x) = tcs { t with U := up t.U k x } :=
  match k, h with
  | 0, _ => rfl
  | 1, _ => rfl
  | 2, _ => rfl
  | 3, _ => rfl
  | 4, _ => rfl
  | 5, _ => rfl
  | 6, _ => rfl
  | 7, _ => rfl
  | n + 8, h => absurd h (by omega)
theorem tcs_size (t : Tb) : (tcs t).size = 64 := rfl
end Go.Proofs.Ytoajbcigenjmmab.Hy
