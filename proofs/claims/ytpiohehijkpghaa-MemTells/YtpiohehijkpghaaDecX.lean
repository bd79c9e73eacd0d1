/- Arithmetic of words and their pieces: what each form reads in a word and writes into one, as sums. Nothing of the program is named here. -/
import Derived.Test.YtpiohehijkpghaaDecF
import Derived.OpenShut
namespace Go.Proofs.Ytpiohehijkpghaa.Hy
open Go.RowKit

theorem or_slot_nat (i j a b : Nat) (hij : i ≤ j) (ha : a % 2 ^ j < 2 ^ i) (hb : b < 2 ^ j) (hb0 : b % 2 ^ i = 0) : a ||| b = a + b := by
  obtain ⟨d, rfl⟩ : ∃ d, j = i + d := ⟨j - i, by omega⟩
  have hp : 0 < 2 ^ i := Nat.two_pow_pos i
  have hlo : a % 2 ^ (i + d) + 2 ^ (i + d) * (a / 2 ^ (i + d)) = a := Nat.mod_add_div _ _
  have e1 : (2 ^ (i + d) * (a / 2 ^ (i + d))) ||| (a % 2 ^ (i + d)) = 2 ^ (i + d) * (a / 2 ^ (i + d)) + a % 2 ^ (i + d) :=
    nat_join (i + d) _ _ (by simp) (Nat.mod_lt _ (Nat.two_pow_pos _))
  have e2 : b ||| (a % 2 ^ (i + d)) = b + a % 2 ^ (i + d) := nat_join i _ _ hb0 ha
  have hlt : b + a % 2 ^ (i + d) < 2 ^ (i + d) := by
    have hb' : b = 2 ^ i * (b / 2 ^ i) := by have := Nat.mod_add_div b (2 ^ i); omega
    have hq : b / 2 ^ i < 2 ^ d := by
      rw [Nat.div_lt_iff_lt_mul hp, ← Nat.pow_add, Nat.add_comm]; exact hb
    have : 2 ^ i * (b / 2 ^ i) + 2 ^ i ≤ 2 ^ i * 2 ^ d := by
      rw [← Nat.mul_succ]; exact Nat.mul_le_mul_left _ hq
    rw [← Nat.pow_add] at this
    omega
  have e3 : (2 ^ (i + d) * (a / 2 ^ (i + d))) ||| (b + a % 2 ^ (i + d)) = 2 ^ (i + d) * (a / 2 ^ (i + d)) + (b + a % 2 ^ (i + d)) :=
    nat_join (i + d) _ _ (by simp) hlt
  have e4 : a ||| b = (2 ^ (i + d) * (a / 2 ^ (i + d)) ||| a % 2 ^ (i + d)) ||| b := by rw [e1]; congr 1; omega
  rw [e4, Nat.or_assoc, Nat.or_comm (a % _) b, e2, e3]; omega

/-- Bits that have room in a word are added. -/
theorem or_slot (i j : Nat) (hij : i ≤ j) (P Q a b : Int) (hP : P = ((2 ^ i : Nat) : Int)) (hQ : Q = ((2 ^ j : Nat) : Int)) (a0 : 0 ≤ a) (a1 : a < 4294967296) (ha : a % Q < P) (b0 : 0 ≤ b) (b1 : b < 4294967296) (hb : b < Q) (hb0 : b % P = 0) :
    bits .or .u32 a b = a + b := by
  rw [u32_or a b a0 a1 b0 b1]
  obtain ⟨n, rfl⟩ := Int.eq_ofNat_of_zero_le a0
  obtain ⟨m, rfl⟩ := Int.eq_ofNat_of_zero_le b0
  subst hP hQ
  simp only [Int.toNat_natCast]
  rw [or_slot_nat i j n m hij (by exact_mod_cast ha) (by exact_mod_cast hb) (by exact_mod_cast hb0)]
  simp

theorem or_mod {a Q P : Int} (hi lo : Int) (h : a = hi * Q + lo) (l0 : 0 ≤ lo) (l1 : lo < P) (hPQ : P ≤ Q) : a % Q < P := by
  subst h
  rw [Int.add_comm, Int.add_mul_emod_self_right, Int.emod_eq_of_lt l0 (by omega)]
  exact l1

theorem or_comm32 (a b : Int) (a0 : 0 ≤ a) (a1 : a < 4294967296) (b0 : 0 ≤ b) (b1 : b < 4294967296) : bits .or .u32 a b = bits .or .u32 b a := by
  rw [u32_or a b a0 a1 b0 b1, u32_or b a b0 b1 a0 a1, Nat.or_comm]

theorem or_zero32 (a : Int) (a0 : 0 ≤ a) (a1 : a < 4294967296) : bits .or .u32 a 0 = a := by
  rw [u32_or a 0 a0 a1 (by omega) (by omega)]
  simp; omega

theorem bits_rng (o : BinOp) (a b : Int) : 0 ≤ bits o .u32 a b ∧ bits o .u32 a b < 4294967296 := by
  have h := bounds_u32 (wf_bits o .u32 a b)
  omega

theorem or_zero_bits (o : BinOp) (a b : Int) : bits .or .u32 (bits o .u32 a b) 0 = bits o .u32 a b :=
  or_zero32 _ (bits_rng o a b).1 (bits_rng o a b).2

/-- The lowest bits. -/
theorem and_low (k : Nat) (hk : k ≤ 32) (m Q x : Int) (hm : m = ((2 ^ k - 1 : Nat) : Int)) (hQ : Q = ((2 ^ k : Nat) : Int)) (x0 : 0 ≤ x) (x1 : x < 4294967296) : bits .and .u32 x m = x % Q := by
  subst hm hQ
  have hle : 2 ^ k ≤ 2 ^ 32 := Nat.pow_le_pow_right (by omega) hk
  rw [u32_and x _ x0 x1 (by omega) (by omega)]
  obtain ⟨n, rfl⟩ := Int.eq_ofNat_of_zero_le x0
  simp only [Int.toNat_natCast]
  rw [Nat.and_two_pow_sub_one_eq_mod]
  simp

theorem and_zero32 (x : Int) (x0 : 0 ≤ x) (x1 : x < 4294967296) : bits .and .u32 x 0 = 0 := by
  rw [u32_and x 0 x0 x1 (by omega) (by omega)]; simp

theorem and31 (x : Int) (x0 : 0 ≤ x) (x1 : x < 4294967296) : bits .and .u32 x 31 = x % 32 := and_low 5 (by omega) _ _ x rfl rfl x0 x1
theorem and1 (x : Int) (x0 : 0 ≤ x) (x1 : x < 4294967296) : bits .and .u32 x 1 = x % 2 := and_low 1 (by omega) _ _ x rfl rfl x0 x1
theorem and15 (x : Int) (x0 : 0 ≤ x) (x1 : x < 4294967296) : bits .and .u32 x 15 = x % 16 := and_low 4 (by omega) _ _ x rfl rfl x0 x1
theorem and63 (x : Int) (x0 : 0 ≤ x) (x1 : x < 4294967296) : bits .and .u32 x 63 = x % 64 := and_low 6 (by omega) _ _ x rfl rfl x0 x1
theorem and127 (x : Int) (x0 : 0 ≤ x) (x1 : x < 4294967296) : bits .and .u32 x 127 = x % 128 := and_low 7 (by omega) _ _ x rfl rfl x0 x1
theorem and255 (x : Int) (x0 : 0 ≤ x) (x1 : x < 4294967296) : bits .and .u32 x 255 = x % 256 := and_low 8 (by omega) _ _ x rfl rfl x0 x1
theorem and1023 (x : Int) (x0 : 0 ≤ x) (x1 : x < 4294967296) : bits .and .u32 x 1023 = x % 1024 := and_low 10 (by omega) _ _ x rfl rfl x0 x1
theorem and4095 (x : Int) (x0 : 0 ≤ x) (x1 : x < 4294967296) : bits .and .u32 x 4095 = x % 4096 := and_low 12 (by omega) _ _ x rfl rfl x0 x1
theorem andM20 (x : Int) (x0 : 0 ≤ x) (x1 : x < 4294967296) : bits .and .u32 x 1048575 = x % 1048576 := and_low 20 (by omega) _ _ x rfl rfl x0 x1
theorem andAll (x : Int) (x0 : 0 ≤ x) (x1 : x < 4294967296) : bits .and .u32 x 4294967295 = x := by
  have := and_low 32 (by omega) 4294967295 4294967296 x rfl rfl x0 x1
  omega

theorem and_mid (x m i : Nat) : x &&& (m * 2 ^ i) = (x / 2 ^ i &&& m) * 2 ^ i := by
  apply Nat.eq_of_testBit_eq
  intro k
  rw [Nat.testBit_and, Nat.testBit_mul_two_pow, Nat.testBit_mul_two_pow, Nat.testBit_and, Nat.testBit_div_two_pow]
  by_cases h : i ≤ k
  · simp [h]
  · simp [h]

theorem told_I (x : Int) (x0 : 0 ≤ x) (x1 : x < 4294967296) : bits .and .u32 x 28799 = x % 128 + x / 4096 % 8 * 4096 := by
  rw [u32_and x _ x0 x1 (by omega) (by omega)]
  obtain ⟨n, rfl⟩ := Int.eq_ofNat_of_zero_le x0
  show ((n &&& 28799 : Nat) : Int) = _
  have e : (28799 : Nat) = 7 * 2 ^ 12 ||| 127 := by decide
  rw [e, Nat.and_or_distrib_left, and_mid, nat_mask7, nat_mask3, nat_join 12 _ _ (by simp) (by omega)]
  omega

theorem told_H (x : Int) (x0 : 0 ≤ x) (x1 : x < 4294967296) : bits .and .u32 x 4261441663 = x % 128 + x / 4096 % 8 * 4096 + x / 33554432 * 33554432 := by
  rw [u32_and x _ x0 x1 (by omega) (by omega)]
  obtain ⟨n, rfl⟩ := Int.eq_ofNat_of_zero_le x0
  show ((n &&& 4261441663 : Nat) : Int) = _
  have e : (4261441663 : Nat) = 127 * 2 ^ 25 ||| (7 * 2 ^ 12 ||| 127) := by decide
  rw [e, Nat.and_or_distrib_left, Nat.and_or_distrib_left, and_mid, and_mid, nat_mask7, nat_mask7, nat_mask3, nat_join 12 (n / 2 ^ 12 % 8 * 2 ^ 12) (n % 128) (by simp) (by omega), nat_join 25 _ _ (by simp) (by omega)]
  omega

theorem or_assoc3 (b lo mi up : Int) (b0 : 0 ≤ b) (b1 : b < 4294967296) (l0 : 0 ≤ lo) (l1 : lo < 4294967296) (m0 : 0 ≤ mi) (m1 : mi < 4294967296) (u0 : 0 ≤ up) (u1 : up < 4294967296) :
    bits .or .u32 (bits .or .u32 up (bits .or .u32 mi lo)) b = bits .or .u32 (bits .or .u32 (bits .or .u32 b lo) mi) up := by
  obtain ⟨b, rfl⟩ := Int.eq_ofNat_of_zero_le b0
  obtain ⟨lo, rfl⟩ := Int.eq_ofNat_of_zero_le l0
  obtain ⟨mi, rfl⟩ := Int.eq_ofNat_of_zero_le m0
  obtain ⟨up, rfl⟩ := Int.eq_ofNat_of_zero_le u0
  have k (p q : Nat) (hp : p < 4294967296) (hq : q < 4294967296) : p ||| q < 4294967296 := Nat.or_lt_two_pow (n := 32) hp hq
  rw [u32_or_nat mi lo (by omega) (by omega), u32_or_nat up _ (by omega) (k _ _ (by omega) (by omega)), u32_or_nat _ b (k _ _ (by omega) (k _ _ (by omega) (by omega))) (by omega),
    u32_or_nat b lo (by omega) (by omega), u32_or_nat _ mi (k _ _ (by omega) (by omega)) (by omega), u32_or_nat _ up (k _ _ (k _ _ (by omega) (by omega)) (by omega)) (by omega)]
  congr 1
  ac_rfl

/-- A word with what it is told by. -/
theorem or_told (lo mi up b : Int) (l0 : 0 ≤ lo) (l1 : lo < 128) (m0 : 0 ≤ mi) (m1 : mi < 8) (u0 : 0 ≤ up) (u1 : up < 128) (b0 : 0 ≤ b) (b1 : b < 4294967296)
    (hl : b % 128 = 0) (hm : mi = 0 ∨ b / 4096 % 8 = 0) (hu : up = 0 ∨ b < 33554432) :
    bits .or .u32 (lo + mi * 4096 + up * 33554432) b = lo + mi * 4096 + up * 33554432 + b := by
  have h1 : bits .or .u32 b lo = b + lo := or_slot 0 7 (by omega) 1 128 b lo rfl rfl b0 b1 (by omega) l0 (by omega) (by omega) (by omega)
  have h2 : bits .or .u32 (b + lo) (mi * 4096) = b + lo + mi * 4096 := by
    rcases hm with rfl | hm
    · rw [show (0 : Int) * 4096 = 0 from rfl, or_zero32 _ (by omega) (by omega)]; omega
    · exact or_slot 12 15 (by omega) 4096 32768 _ _ rfl rfl (by omega) (by omega) (by omega) (by omega) (by omega) (by omega) (by omega)
  have hlt : up = 0 ∨ b + lo + mi * 4096 < 33554432 := by omega
  have h3 : bits .or .u32 (b + lo + mi * 4096) (up * 33554432) = b + lo + mi * 4096 + up * 33554432 := by
    rcases hlt with rfl | hlt
    · rw [show (0 : Int) * 33554432 = 0 from rfl, or_zero32 _ (by omega) (by omega)]; omega
    · exact or_slot 25 32 (by omega) 33554432 4294967296 _ _ rfl rfl (by omega) (by omega) (by omega) (by omega) (by omega) (by omega) (by omega)
  have g1 : bits .or .u32 (mi * 4096) lo = mi * 4096 + lo := or_slot 0 7 (by omega) 1 128 _ _ rfl rfl (by omega) (by omega) (by omega) l0 (by omega) (by omega) (by omega)
  have g2 : bits .or .u32 (up * 33554432) (mi * 4096 + lo) = up * 33554432 + (mi * 4096 + lo) := or_slot 0 25 (by omega) 1 33554432 _ _ rfl rfl (by omega) (by omega) (by omega) (by omega) (by omega) (by omega) (by omega)
  have e : lo + mi * 4096 + up * 33554432 = bits .or .u32 (up * 33554432) (bits .or .u32 (mi * 4096) lo) := by rw [g1, g2]; omega
  have hb : b + lo + mi * 4096 < 4294967296 := by omega
  rw [e, or_assoc3 b lo (mi * 4096) (up * 33554432) (by omega) (by omega) (by omega) (by omega) (by omega) (by omega) (by omega) (by omega), h1, h2, h3, ← e]
  omega
end Go.Proofs.Ytpiohehijkpghaa.Hy
