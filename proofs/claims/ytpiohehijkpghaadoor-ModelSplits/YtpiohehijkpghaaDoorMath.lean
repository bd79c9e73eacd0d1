/- Plain facts on words of 32 bits: what each operation of chapter 1 makes of two words, and the arithmetic by which two ways of reckoning it agree. Nothing of the program is named here. -/
import Derived.WalkKit
import Derived.Laws.BitsAllLaws
namespace Go.Proofs.YtpiohehijkpghaaDoor.Hy
open Go.RowKit

/-- A word told as a number that has a sign. -/
def sg (a : Int) : Int := if a < 2147483648 then a else a - 4294967296

def two (n : Nat) : Int := ((2 ^ n : Nat) : Int)

/-- What an operation makes of two words. -/
def alu (op a b : Int) : Int :=
  if op = 28 then (a + b) % 4294967296
  else if op = 29 then (a - b) % 4294967296
  else if op = 30 then (a * two (b % 32).toNat) % 4294967296
  else if op = 31 then (if sg a < sg b then 1 else 0)
  else if op = 32 then (if a < b then 1 else 0)
  else if op = 33 then ((a.toNat ^^^ b.toNat : Nat) : Int)
  else if op = 34 then a / two (b % 32).toNat
  else if op = 35 then (sg a / two (b % 32).toNat) % 4294967296
  else if op = 36 then ((a.toNat ||| b.toNat : Nat) : Int)
  else if op = 37 then ((a.toNat &&& b.toNat : Nat) : Int)
  else if op = 38 then (a * b) % 4294967296
  else if op = 39 then (sg a * sg b / 4294967296) % 4294967296
  else if op = 40 then (sg a * b / 4294967296) % 4294967296
  else if op = 41 then (a * b / 4294967296) % 4294967296
  else if op = 42 then (if b = 0 then 4294967295 else (sg a).tdiv (sg b) % 4294967296)
  else if op = 43 then (if b = 0 then 4294967295 else a / b)
  else if op = 44 then (if b = 0 then a else (sg a).tmod (sg b) % 4294967296)
  else if op = 45 then (if b = 0 then a else a % b)
  else 0

/-- Whether a branch is taken. -/
def holds (op a b : Int) : Bool :=
  if op = 5 then a == b
  else if op = 6 then a != b
  else if op = 7 then decide (sg a < sg b)
  else if op = 8 then !decide (sg a < sg b)
  else if op = 9 then decide (a < b)
  else if op = 10 then decide (b ≤ a)
  else false

theorem sg_range (a : Int) (a0 : 0 ≤ a) (a1 : a ≤ 4294967295) : -2147483648 ≤ sg a ∧ sg a ≤ 2147483647 := by
  unfold sg; split <;> omega

theorem wrap_sg (a : Int) (a0 : 0 ≤ a) (a1 : a ≤ 4294967295) : wrap32 a = sg a := by
  unfold wrap32 sg; split <;> omega

theorem wrap64_sg (a : Int) (a0 : 0 ≤ a) (a1 : a ≤ 4294967295) : wrap64 (wrap32 a) = sg a := by
  rw [wrap_sg a a0 a1]
  have := sg_range a a0 a1
  unfold wrap64; omega

theorem sg_zero (a : Int) (a0 : 0 ≤ a) (a1 : a ≤ 4294967295) : sg a = 0 ↔ a = 0 := by
  unfold sg; split <;> omega

theorem sg_mod (a : Int) (a0 : 0 ≤ a) (a1 : a ≤ 4294967295) : sg a % 4294967296 = a := by
  unfold sg; split <;> omega

theorem two_pos (n : Nat) : 0 < two n := by
  unfold two; have := Nat.two_pow_pos n; omega

theorem two_succ (n : Nat) : two (n + 1) = two n + two n := by
  unfold two; rw [Nat.pow_succ]; omega

theorem two_mono {m n : Nat} (h : m ≤ n) : two m ≤ two n := by
  unfold two; have := Nat.pow_le_pow_right (n := 2) (by omega) h; omega

theorem two_32 : two 32 = 4294967296 := by decide

theorem two_le (n : Nat) (h : n ≤ 32) : two n ≤ 4294967296 := by
  have := two_mono h; rw [two_32] at this; exact this

theorem two_add (m n : Nat) : two (m + n) = two m * two n := by
  unfold two; rw [Nat.pow_add]; simp

theorem pow_two (n : Nat) : (2 : Int) ^ n = two n := by
  unfold two; simp

/-- The five lowest bits. -/
theorem low5 (b : Int) (b0 : 0 ≤ b) (b1 : b ≤ 4294967295) : bits .and .u32 b 31 = b % 32 := by
  rw [u32_and b 31 b0 (by omega) (by omega) (by omega)]
  show ((b.toNat &&& 31 : Nat) : Int) = _
  rw [nat_mask5]; omega

theorem shl_eq (a : Int) (s : Nat) (hs : s ≤ 32) : (a % two (32 - s)) * two s = (a * two s) % 4294967296 := by
  have h : (4294967296 : Int) = two (32 - s) * two s := by rw [← two_add, ← two_32]; congr 1; omega
  rw [h, Int.mul_comm a, Int.mul_comm (two (32 - s)), Int.mul_emod_mul_of_pos _ _ (two_pos s), Int.mul_comm]

theorem mul_mod (a b : Int) (a0 : 0 ≤ a) (a1 : a ≤ 4294967295) (b0 : 0 ≤ b) (b1 : b ≤ 4294967295) : (sg a * sg b) % 4294967296 = (a * b) % 4294967296 := by
  rw [Int.mul_emod, sg_mod a a0 a1, sg_mod b b0 b1]

theorem prod_range (x y : Int) (m n : Int) (hx0 : -m ≤ x) (hx1 : x ≤ m) (hy0 : -n ≤ y) (hy1 : y ≤ n) : -(m * n) ≤ x * y ∧ x * y ≤ m * n := by
  have hm : 0 ≤ m := by omega
  have hn : 0 ≤ n := by omega
  have h : (x * y).natAbs ≤ (m * n).natAbs := by
    rw [Int.natAbs_mul, Int.natAbs_mul]
    exact Nat.mul_le_mul (by omega) (by omega)
  have h2 : 0 ≤ m * n := Int.mul_nonneg hm hn
  omega

theorem upper_eq (a high low : Int) : (a * high + a * low / 65536) / 65536 = (a * (high * 65536 + low)) / 4294967296 := by
  rw [Int.mul_add, ← Int.mul_assoc]
  generalize a * high = p
  generalize a * low = q
  omega

theorem upper64 (n : Int) : n % 18446744073709551616 / 4294967296 = n / 4294967296 % 4294967296 := by omega

/-- An operation on bits. -/
def bitop (op : Int) (p q : Bool) : Bool := if op = 37 then p && q else if op = 36 then p || q else p ^^ q
def natop (op : Int) (x y : Nat) : Nat := if op = 37 then x &&& y else if op = 36 then x ||| y else x ^^^ y

theorem natop_bit (op : Int) (x y i : Nat) : (natop op x y / 2 ^ i % 2 = 1) ↔ bitop op (decide (x / 2 ^ i % 2 = 1)) (decide (y / 2 ^ i % 2 = 1)) = true := by
  have t (z : Nat) : decide (z / 2 ^ i % 2 = 1) = z.testBit i := by
    rw [Nat.testBit_eq_decide_div_mod_eq]
  rw [t x, t y]
  refine (decide_eq_true_iff (p := natop op x y / 2 ^ i % 2 = 1)).symm.trans ?_
  rw [t (natop op x y)]
  unfold natop bitop
  split
  · rw [Nat.testBit_and]
  · split
    · rw [Nat.testBit_or]
    · rw [Nat.testBit_xor]

theorem natop_lt (op : Int) (x y n : Nat) (hx : x < 2 ^ n) (hy : y < 2 ^ n) : natop op x y < 2 ^ n := by
  unfold natop
  split
  · exact Nat.and_lt_two_pow _ hy
  · split
    · exact Nat.or_lt_two_pow hx hy
    · exact Nat.xor_lt_two_pow hx hy

theorem natop_round (op : Int) (x y i : Nat) : ((natop op x y % 2 ^ (i + 1) : Nat) : Int)
    = ((natop op x y % 2 ^ i : Nat) : Int) + (if bitop op (decide (x / 2 ^ i % 2 = 1)) (decide (y / 2 ^ i % 2 = 1)) = true then two i else 0) := by
  rw [Nat.mod_pow_succ]
  by_cases h : natop op x y / 2 ^ i % 2 = 1
  · rw [if_pos ((natop_bit op x y i).1 h), h]; unfold two; omega
  · rw [if_neg (fun g => h ((natop_bit op x y i).2 g))]
    have : natop op x y / 2 ^ i % 2 = 0 := by omega
    rw [this]; omega

theorem tdiv_range (x y : Int) (m : Int) (hx0 : -m ≤ x) (hx1 : x ≤ m) : -m ≤ x.tdiv y ∧ x.tdiv y ≤ m := by
  have h : (x.tdiv y).natAbs ≤ x.natAbs := by rw [Int.natAbs_tdiv]; exact Nat.div_le_self _ _
  omega

theorem rem_eq (x y : Int) : x - x.tdiv y * y = x.tmod y := by
  rw [Int.tmod_def, Int.mul_comm y]

theorem tmod_range (x y : Int) (m : Int) (hx0 : -m ≤ x) (hx1 : x ≤ m) : -m ≤ x.tmod y ∧ x.tmod y ≤ m := by
  have h : (x.tmod y).natAbs ≤ x.natAbs := by rw [Int.natAbs_tmod]; exact Nat.mod_le _ _
  omega

theorem of_eq (n : Int) : (if n.tmod 4294967296 < 0 then n.tmod 4294967296 + 4294967296 else n.tmod 4294967296) = n % 4294967296 := by
  rw [Int.tmod_eq_emod]
  have : n % 4294967296 < 4294967296 := Int.emod_lt_of_pos _ (by decide)
  have : 0 ≤ n % 4294967296 := Int.emod_nonneg _ (by decide)
  have : (4294967296 : Int) ∣ n ↔ n % 4294967296 = 0 := Int.dvd_iff_emod_eq_zero
  by_cases h0 : 0 ≤ n
  · simp [h0]; omega
  · by_cases hd : (4294967296 : Int) ∣ n
    · simp [hd]; omega
    · simp [h0, hd]; omega

/-- A number that is a word. -/
def Wd (n : Int) : Prop := 0 ≤ n ∧ n ≤ 4294967295

theorem wd_ite {c : Prop} [Decidable c] {x y : Int} (hx : c → Wd x) (hy : ¬ c → Wd y) : Wd (if c then x else y) := by
  split
  · exact hx ‹_›
  · exact hy ‹_›

theorem wd_mod (n : Int) : Wd (n % 4294967296) := by unfold Wd; omega

theorem wd_lit (n : Int) (h : 0 ≤ n ∧ n ≤ 4294967295) : Wd n := h

theorem wd_bits (o a b : Int) (a0 : 0 ≤ a) (a1 : a ≤ 4294967295) (b0 : 0 ≤ b) (b1 : b ≤ 4294967295) : Wd ((natop o a.toNat b.toNat : Nat) : Int) := by
  have := natop_lt o a.toNat b.toNat 32 (by omega) (by omega)
  unfold Wd; omega

theorem wd_div (a b : Int) (a0 : 0 ≤ a) (a1 : a ≤ 4294967295) (b0 : 0 ≤ b) : Wd (a / b) := by
  have h2 := Int.ediv_nonneg a0 b0
  have h3 := Int.ediv_le_self b a0
  unfold Wd; omega

theorem wd_rest (a b : Int) (b1 : b ≤ 4294967295) (b0 : 0 < b) : Wd (a % b) := by
  have h1 := Int.emod_nonneg a (b := b) (by omega)
  have h2 := Int.emod_lt_of_pos a (b := b) (by omega)
  unfold Wd; omega

theorem alu_range (op a b : Int) (a0 : 0 ≤ a) (a1 : a ≤ 4294967295) (b0 : 0 ≤ b) (b1 : b ≤ 4294967295) : 0 ≤ alu op a b ∧ alu op a b ≤ 4294967295 := by
  show Wd (alu op a b)
  unfold alu
  refine wd_ite (fun _ => wd_mod _) fun _ => ?_
  refine wd_ite (fun _ => wd_mod _) fun _ => ?_
  refine wd_ite (fun _ => wd_mod _) fun _ => ?_
  refine wd_ite (fun _ => wd_ite (fun _ => wd_lit _ (by omega)) (fun _ => wd_lit _ (by omega))) fun _ => ?_
  refine wd_ite (fun _ => wd_ite (fun _ => wd_lit _ (by omega)) (fun _ => wd_lit _ (by omega))) fun _ => ?_
  refine wd_ite (fun _ => wd_bits 33 a b a0 a1 b0 b1) fun _ => ?_
  refine wd_ite (fun _ => wd_div _ _ a0 a1 (Int.le_of_lt (two_pos _))) fun _ => ?_
  refine wd_ite (fun _ => wd_mod _) fun _ => ?_
  refine wd_ite (fun _ => wd_bits 36 a b a0 a1 b0 b1) fun _ => ?_
  refine wd_ite (fun _ => wd_bits 37 a b a0 a1 b0 b1) fun _ => ?_
  refine wd_ite (fun _ => wd_mod _) fun _ => ?_
  refine wd_ite (fun _ => wd_mod _) fun _ => ?_
  refine wd_ite (fun _ => wd_mod _) fun _ => ?_
  refine wd_ite (fun _ => wd_mod _) fun _ => ?_
  refine wd_ite (fun _ => wd_ite (fun _ => wd_lit _ (by omega)) (fun _ => wd_mod _)) fun _ => ?_
  refine wd_ite (fun _ => wd_ite (fun _ => wd_lit _ (by omega)) (fun _ => wd_div _ _ a0 a1 b0)) fun _ => ?_
  refine wd_ite (fun _ => wd_ite (fun _ => wd_lit _ (by omega)) (fun _ => wd_mod _)) fun _ => ?_
  refine wd_ite (fun _ => wd_ite (fun _ => wd_lit _ (by omega)) (fun _ => wd_rest _ _ b1 (by omega))) fun _ => ?_
  exact wd_lit _ (by omega)
end Go.Proofs.YtpiohehijkpghaaDoor.Hy
