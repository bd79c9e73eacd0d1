/- Arithmetic of words and their pieces: what each form reads in a word and writes into one, as sums. Nothing of the program is named here. -/
import Derived.Test.YtpiohehijkpghaaDoorDecM
import Derived.OpenShut
namespace Go.Proofs.YtpiohehijkpghaaDoor.Hy
open Go.RowKit

theorem or_slot_nat (i j a b : Nat) (hij : i ≤ j) (ha : a % 2 ^ j < 2 ^ i) (hb : b < 2 ^ j) (hb0 : b % 2 ^ i = 0) : a ||| b = a + b := by
  obtain ⟨d, rfl⟩ : ∃ d, j = i + d := ⟨j - i, by omega⟩
  have hp : 0 < 2 ^ i := Nat.two_pow_pos i
  have hlo : a % 2 ^ (i + d) + 2 ^ (i + d) * (a / 2 ^ (i + d)) = a := Nat.mod_add_div _ _
  have e1 : (2 ^ (i + d) * (a / 2 ^ (i + d))) ||| (a % 2 ^ (i + d)) = 2 ^ (i + d) * (a / 2 ^ (i + d)) + a % 2 ^ (i + d) :=
    nat_join (i + d) _ _ (by simp) (Nat.mod_lt _ (Nat.two_pow_pos _))
  have e2 : b ||| (a % 2 ^ (i + d)) = b + a % 2 ^ (i + d) := nat_join i _ _ hb0 ha
  have hlt : b + a % 2 ^ (i + d) < 2 ^ (i + d) := by
    have hb' : b = 2 ^ i * (b / 2 ^ i) := by have := Nat.mod_add_div b (2 ^ i); omega
    have hq : b / 2 ^ i < 2 ^ d := by
      rw [Nat.div_lt_iff_lt_mul hp, ← Nat.pow_add, Nat.add_comm]; exact hb
    have : 2 ^ i * (b / 2 ^ i) + 2 ^ i ≤ 2 ^ i * 2 ^ d := by
      rw [← Nat.mul_succ]; exact Nat.mul_le_mul_left _ hq
    rw [← Nat.pow_add] at this
    omega
  have e3 : (2 ^ (i + d) * (a / 2 ^ (i + d))) ||| (b + a % 2 ^ (i + d)) = 2 ^ (i + d) * (a / 2 ^ (i + d)) + (b + a % 2 ^ (i + d)) :=
    nat_join (i + d) _ _ (by simp) hlt
  have e4 : a ||| b = (2 ^ (i + d) * (a / 2 ^ (i + d)) ||| a % 2 ^ (i + d)) ||| b := by rw [e1]; congr 1; omega
  rw [e4, Nat.or_assoc, Nat.or_comm (a % _) b, e2, e3]; omega

/-- Bits that have room in a word are added. -/
theorem or_slot (i j : Nat) (hij : i ≤ j) (P Q a b : Int) (hP : P = ((2 ^ i : Nat) : Int)) (hQ : Q = ((2 ^ j : Nat) : Int)) (a0 : 0 ≤ a) (a1 : a < 4294967296) (ha : a % Q < P) (b0 : 0 ≤ b) (b1 : b < 4294967296) (hb : b < Q) (hb0 : b % P = 0) :
    bits .or .u32 a b = a + b := by
  rw [u32_or a b a0 a1 b0 b1]
  obtain ⟨n, rfl⟩ := Int.eq_ofNat_of_zero_le a0
  obtain ⟨m, rfl⟩ := Int.eq_ofNat_of_zero_le b0
  subst hP hQ
  simp only [Int.toNat_natCast]
  rw [or_slot_nat i j n m hij (by exact_mod_cast ha) (by exact_mod_cast hb) (by exact_mod_cast hb0)]
  simp

theorem or_mod {a Q P : Int} (hi lo : Int) (h : a = hi * Q + lo) (l0 : 0 ≤ lo) (l1 : lo < P) (hPQ : P ≤ Q) : a % Q < P := by
  subst h
  rw [Int.add_comm, Int.add_mul_emod_self_right, Int.emod_eq_of_lt l0 (by omega)]
  exact l1

theorem or_comm32 (a b : Int) (a0 : 0 ≤ a) (a1 : a < 4294967296) (b0 : 0 ≤ b) (b1 : b < 4294967296) : bits .or .u32 a b = bits .or .u32 b a := by
  rw [u32_or a b a0 a1 b0 b1, u32_or b a b0 b1 a0 a1, Nat.or_comm]

theorem or_zero32 (a : Int) (a0 : 0 ≤ a) (a1 : a < 4294967296) : bits .or .u32 a 0 = a := by
  rw [u32_or a 0 a0 a1 (by omega) (by omega)]
  simp; omega

theorem bits_rng (o : BinOp) (a b : Int) : 0 ≤ bits o .u32 a b ∧ bits o .u32 a b < 4294967296 := by
  have h := bounds_u32 (wf_bits o .u32 a b)
  omega

theorem or_zero_bits (o : BinOp) (a b : Int) : bits .or .u32 (bits o .u32 a b) 0 = bits o .u32 a b :=
  or_zero32 _ (bits_rng o a b).1 (bits_rng o a b).2

/-- The lowest bits. -/
theorem and_low (k : Nat) (hk : k ≤ 32) (m Q x : Int) (hm : m = ((2 ^ k - 1 : Nat) : Int)) (hQ : Q = ((2 ^ k : Nat) : Int)) (x0 : 0 ≤ x) (x1 : x < 4294967296) : bits .and .u32 x m = x % Q := by
  subst hm hQ
  have hle : 2 ^ k ≤ 2 ^ 32 := Nat.pow_le_pow_right (by omega) hk
  rw [u32_and x _ x0 x1 (by omega) (by omega)]
  obtain ⟨n, rfl⟩ := Int.eq_ofNat_of_zero_le x0
  simp only [Int.toNat_natCast]
  rw [Nat.and_two_pow_sub_one_eq_mod]
  simp

theorem and_zero32 (x : Int) (x0 : 0 ≤ x) (x1 : x < 4294967296) : bits .and .u32 x 0 = 0 := by
  rw [u32_and x 0 x0 x1 (by omega) (by omega)]; simp

theorem and31 (x : Int) (x0 : 0 ≤ x) (x1 : x < 4294967296) : bits .and .u32 x 31 = x % 32 := and_low 5 (by omega) _ _ x rfl rfl x0 x1
theorem and1 (x : Int) (x0 : 0 ≤ x) (x1 : x < 4294967296) : bits .and .u32 x 1 = x % 2 := and_low 1 (by omega) _ _ x rfl rfl x0 x1
theorem and15 (x : Int) (x0 : 0 ≤ x) (x1 : x < 4294967296) : bits .and .u32 x 15 = x % 16 := and_low 4 (by omega) _ _ x rfl rfl x0 x1
theorem and63 (x : Int) (x0 : 0 ≤ x) (x1 : x < 4294967296) : bits .and .u32 x 63 = x % 64 := and_low 6 (by omega) _ _ x rfl rfl x0 x1
theorem and127 (x : Int) (x0 : 0 ≤ x) (x1 : x < 4294967296) : bits .and .u32 x 127 = x % 128 := and_low 7 (by omega) _ _ x rfl rfl x0 x1
theorem and255 (x : Int) (x0 : 0 ≤ x) (x1 : x < 4294967296) : bits .and .u32 x 255 = x % 256 := and_low 8 (by omega) _ _ x rfl rfl x0 x1
theorem and1023 (x : Int) (x0 : 0 ≤ x) (x1 : x < 4294967296) : bits .and .u32 x 1023 = x % 1024 := and_low 10 (by omega) _ _ x rfl rfl x0 x1
theorem and4095 (x : Int) (x0 : 0 ≤ x) (x1 : x < 4294967296) : bits .and .u32 x 4095 = x % 4096 := and_low 12 (by omega) _ _ x rfl rfl x0 x1
theorem andM20 (x : Int) (x0 : 0 ≤ x) (x1 : x < 4294967296) : bits .and .u32 x 1048575 = x % 1048576 := and_low 20 (by omega) _ _ x rfl rfl x0 x1
theorem andAll (x : Int) (x0 : 0 ≤ x) (x1 : x < 4294967296) : bits .and .u32 x 4294967295 = x := by
  have := and_low 32 (by omega) 4294967295 4294967296 x rfl rfl x0 x1
  omega

theorem and_mid (x m i : Nat) : x &&& (m * 2 ^ i) = (x / 2 ^ i &&& m) * 2 ^ i := by
  apply Nat.eq_of_testBit_eq
  intro k
  rw [Nat.testBit_and, Nat.testBit_mul_two_pow, Nat.testBit_mul_two_pow, Nat.testBit_and, Nat.testBit_div_two_pow]
  by_cases h : i ≤ k
  · simp [h]
  · simp [h]

theorem told_I (x : Int) (x0 : 0 ≤ x) (x1 : x < 4294967296) : bits .and .u32 x 28799 = x % 128 + x / 4096 % 8 * 4096 := by
  rw [u32_and x _ x0 x1 (by omega) (by omega)]
  obtain ⟨n, rfl⟩ := Int.eq_ofNat_of_zero_le x0
  show ((n &&& 28799 : Nat) : Int) = _
  have e : (28799 : Nat) = 7 * 2 ^ 12 ||| 127 := by decide
  rw [e, Nat.and_or_distrib_left, and_mid, nat_mask7, nat_mask3, nat_join 12 _ _ (by simp) (by omega)]
  omega

theorem told_H (x : Int) (x0 : 0 ≤ x) (x1 : x < 4294967296) : bits .and .u32 x 4261441663 = x % 128 + x / 4096 % 8 * 4096 + x / 33554432 * 33554432 := by
  rw [u32_and x _ x0 x1 (by omega) (by omega)]
  obtain ⟨n, rfl⟩ := Int.eq_ofNat_of_zero_le x0
  show ((n &&& 4261441663 : Nat) : Int) = _
  have e : (4261441663 : Nat) = 127 * 2 ^ 25 ||| (7 * 2 ^ 12 ||| 127) := by decide
  rw [e, Nat.and_or_distrib_left, Nat.and_or_distrib_left, and_mid, and_mid, nat_mask7, nat_mask7, nat_mask3, nat_join 12 (n / 2 ^ 12 % 8 * 2 ^ 12) (n % 128) (by simp) (by omega), nat_join 25 _ _ (by simp) (by omega)]
  omega

theorem or_assoc3 (b lo mi up : Int) (b0 : 0 ≤ b) (b1 : b < 4294967296) (l0 : 0 ≤ lo) (l1 : lo < 4294967296) (m0 : 0 ≤ mi) (m1 : mi < 4294967296) (u0 : 0 ≤ up) (u1 : up < 4294967296) :
    bits .or .u32 (bits .or .u32 up (bits .or .u32 mi lo)) b = bits .or .u32 (bits .or .u32 (bits .or .u32 b lo) mi) up := by
  obtain ⟨b, rfl⟩ := Int.eq_ofNat_of_zero_le b0
  obtain ⟨lo, rfl⟩ := Int.eq_ofNat_of_zero_le l0
  obtain ⟨mi, rfl⟩ := Int.eq_ofNat_of_zero_le m0
  obtain ⟨up, rfl⟩ := Int.eq_ofNat_of_zero_le u0
  have k (p q : Nat) (hp : p < 4294967296) (hq : q < 4294967296) : p ||| q < 4294967296 := Nat.or_lt_two_pow (n := 32) hp hq
  rw [u32_or_nat mi lo (by omega) (by omega), u32_or_nat up _ (by omega) (k _ _ (by omega) (by omega)), u32_or_nat _ b (k _ _ (by omega) (k _ _ (by omega) (by omega))) (by omega),
    u32_or_nat b lo (by omega) (by omega), u32_or_nat _ mi (k _ _ (by omega) (by omega)) (by omega), u32_or_nat _ up (k _ _ (k _ _ (by omega) (by omega)) (by omega)) (by omega)]
  congr 1
  ac_rfl

/-- A word with what it is told by. -/
theorem or_told (lo mi up b : Int) (l0 : 0 ≤ lo) (l1 : lo < 128) (m0 : 0 ≤ mi) (m1 : mi < 8) (u0 : 0 ≤ up) (u1 : up < 128) (b0 : 0 ≤ b) (b1 : b < 4294967296)
    (hl : b % 128 = 0) (hm : mi = 0 ∨ b / 4096 % 8 = 0) (hu : up = 0 ∨ b < 33554432) :
    bits .or .u32 (lo + mi * 4096 + up * 33554432) b = lo + mi * 4096 + up * 33554432 + b := by
  have h1 : bits .or .u32 b lo = b + lo := or_slot 0 7 (by omega) 1 128 b lo rfl rfl b0 b1 (by omega) l0 (by omega) (by omega) (by omega)
  have h2 : bits .or .u32 (b + lo) (mi * 4096) = b + lo + mi * 4096 := by
    rcases hm with rfl | hm
    · rw [show (0 : Int) * 4096 = 0 from rfl, or_zero32 _ (by omega) (by omega)]; omega
    · exact or_slot 12 15 (by omega) 4096 32768 _ _ rfl rfl (by omega) (by omega) (by omega) (by omega) (by omega) (by omega) (by omega)
  have hlt : up = 0 ∨ b + lo + mi * 4096 < 33554432 := by omega
  have h3 : bits .or .u32 (b + lo + mi * 4096) (up * 33554432) = b + lo + mi * 4096 + up * 33554432 := by
    rcases hlt with rfl | hlt
    · rw [show (0 : Int) * 33554432 = 0 from rfl, or_zero32 _ (by omega) (by omega)]; omega
    · exact or_slot 25 32 (by omega) 33554432 4294967296 _ _ rfl rfl (by omega) (by omega) (by omega) (by omega) (by omega) (by omega) (by omega)
  have g1 : bits .or .u32 (mi * 4096) lo = mi * 4096 + lo := or_slot 0 7 (by omega) 1 128 _ _ rfl rfl (by omega) (by omega) (by omega) l0 (by omega) (by omega) (by omega)
  have g2 : bits .or .u32 (up * 33554432) (mi * 4096 + lo) = up * 33554432 + (mi * 4096 + lo) := or_slot 0 25 (by omega) 1 33554432 _ _ rfl rfl (by omega) (by omega) (by omega) (by omega) (by omega) (by omega) (by omega)
  have e : lo + mi * 4096 + up * 33554432 = bits .or .u32 (up * 33554432) (bits .or .u32 (mi * 4096) lo) := by rw [g1, g2]; omega
  have hb : b + lo + mi * 4096 < 4294967296 := by omega
  rw [e, or_assoc3 b lo (mi * 4096) (up * 33554432) (by omega) (by omega) (by omega) (by omega) (by omega) (by omega) (by omega) (by omega), h1, h2, h3, ← e]
  omega
end Go.Proofs.YtpiohehijkpghaaDoor.Hy
namespace Go.Proofs.YtpiohehijkpghaaDoor.Hy
open Go.RowKit

theorem pc_none (x : Int) (x0 : 0 ≤ x) (x1 : x < 4294967296) : pc x 0 0 0 = 0 := by
  have e : pc x 0 0 0 = bits .and .u32 (x / 1) 0 * 1 % 4294967296 := rfl
  rw [e, Int.ediv_one, and_zero32 x x0 x1]; rfl
theorem pc_12_20_12 (x : Int) (x0 : 0 ≤ x) (x1 : x < 4294967296) : pc x 12 20 12 = x / 4096 % 1048576 * 4096 := by
  have e : pc x 12 20 12 = bits .and .u32 (x / 4096) 1048575 * 4096 % 4294967296 := rfl
  rw [e, andM20 (x / 4096) (by omega) (by omega)]; omega
theorem pc_31_1_20 (x : Int) (x0 : 0 ≤ x) (x1 : x < 4294967296) : pc x 31 1 20 = x / 2147483648 % 2 * 1048576 := by
  have e : pc x 31 1 20 = bits .and .u32 (x / 2147483648) 1 * 1048576 % 4294967296 := rfl
  rw [e, and1 (x / 2147483648) (by omega) (by omega)]; omega
theorem pc_20_1_31 (x : Int) (x0 : 0 ≤ x) (x1 : x < 4294967296) : pc x 20 1 31 = x / 1048576 % 2 * 2147483648 := by
  have e : pc x 20 1 31 = bits .and .u32 (x / 1048576) 1 * 2147483648 % 4294967296 := rfl
  rw [e, and1 (x / 1048576) (by omega) (by omega)]; omega
theorem pc_12_8_12 (x : Int) (x0 : 0 ≤ x) (x1 : x < 4294967296) : pc x 12 8 12 = x / 4096 % 256 * 4096 := by
  have e : pc x 12 8 12 = bits .and .u32 (x / 4096) 255 * 4096 % 4294967296 := rfl
  rw [e, and255 (x / 4096) (by omega) (by omega)]; omega
theorem pc_20_1_11 (x : Int) (x0 : 0 ≤ x) (x1 : x < 4294967296) : pc x 20 1 11 = x / 1048576 % 2 * 2048 := by
  have e : pc x 20 1 11 = bits .and .u32 (x / 1048576) 1 * 2048 % 4294967296 := rfl
  rw [e, and1 (x / 1048576) (by omega) (by omega)]; omega
theorem pc_11_1_20 (x : Int) (x0 : 0 ≤ x) (x1 : x < 4294967296) : pc x 11 1 20 = x / 2048 % 2 * 1048576 := by
  have e : pc x 11 1 20 = bits .and .u32 (x / 2048) 1 * 1048576 % 4294967296 := rfl
  rw [e, and1 (x / 2048) (by omega) (by omega)]; omega
theorem pc_21_10_1 (x : Int) (x0 : 0 ≤ x) (x1 : x < 4294967296) : pc x 21 10 1 = x / 2097152 % 1024 * 2 := by
  have e : pc x 21 10 1 = bits .and .u32 (x / 2097152) 1023 * 2 % 4294967296 := rfl
  rw [e, and1023 (x / 2097152) (by omega) (by omega)]; omega
theorem pc_1_10_21 (x : Int) (x0 : 0 ≤ x) (x1 : x < 4294967296) : pc x 1 10 21 = x / 2 % 1024 * 2097152 := by
  have e : pc x 1 10 21 = bits .and .u32 (x / 2) 1023 * 2097152 % 4294967296 := rfl
  rw [e, and1023 (x / 2) (by omega) (by omega)]; omega
theorem pc_20_12_0 (x : Int) (x0 : 0 ≤ x) (x1 : x < 4294967296) : pc x 20 12 0 = x / 1048576 % 4096 * 1 := by
  have e : pc x 20 12 0 = bits .and .u32 (x / 1048576) 4095 * 1 % 4294967296 := rfl
  rw [e, and4095 (x / 1048576) (by omega) (by omega)]; omega
theorem pc_0_12_20 (x : Int) (x0 : 0 ≤ x) (x1 : x < 4294967296) : pc x 0 12 20 = x / 1 % 4096 * 1048576 := by
  have e : pc x 0 12 20 = bits .and .u32 (x / 1) 4095 * 1048576 % 4294967296 := rfl
  rw [e, and4095 (x / 1) (by omega) (by omega)]; omega
theorem pc_20_5_0 (x : Int) (x0 : 0 ≤ x) (x1 : x < 4294967296) : pc x 20 5 0 = x / 1048576 % 32 * 1 := by
  have e : pc x 20 5 0 = bits .and .u32 (x / 1048576) 31 * 1 % 4294967296 := rfl
  rw [e, and31 (x / 1048576) (by omega) (by omega)]; omega
theorem pc_0_5_20 (x : Int) (x0 : 0 ≤ x) (x1 : x < 4294967296) : pc x 0 5 20 = x / 1 % 32 * 1048576 := by
  have e : pc x 0 5 20 = bits .and .u32 (x / 1) 31 * 1048576 % 4294967296 := rfl
  rw [e, and31 (x / 1) (by omega) (by omega)]; omega
theorem pc_31_1_12 (x : Int) (x0 : 0 ≤ x) (x1 : x < 4294967296) : pc x 31 1 12 = x / 2147483648 % 2 * 4096 := by
  have e : pc x 31 1 12 = bits .and .u32 (x / 2147483648) 1 * 4096 % 4294967296 := rfl
  rw [e, and1 (x / 2147483648) (by omega) (by omega)]; omega
theorem pc_12_1_31 (x : Int) (x0 : 0 ≤ x) (x1 : x < 4294967296) : pc x 12 1 31 = x / 4096 % 2 * 2147483648 := by
  have e : pc x 12 1 31 = bits .and .u32 (x / 4096) 1 * 2147483648 % 4294967296 := rfl
  rw [e, and1 (x / 4096) (by omega) (by omega)]; omega
theorem pc_7_1_11 (x : Int) (x0 : 0 ≤ x) (x1 : x < 4294967296) : pc x 7 1 11 = x / 128 % 2 * 2048 := by
  have e : pc x 7 1 11 = bits .and .u32 (x / 128) 1 * 2048 % 4294967296 := rfl
  rw [e, and1 (x / 128) (by omega) (by omega)]; omega
theorem pc_11_1_7 (x : Int) (x0 : 0 ≤ x) (x1 : x < 4294967296) : pc x 11 1 7 = x / 2048 % 2 * 128 := by
  have e : pc x 11 1 7 = bits .and .u32 (x / 2048) 1 * 128 % 4294967296 := rfl
  rw [e, and1 (x / 2048) (by omega) (by omega)]; omega
theorem pc_25_6_5 (x : Int) (x0 : 0 ≤ x) (x1 : x < 4294967296) : pc x 25 6 5 = x / 33554432 % 64 * 32 := by
  have e : pc x 25 6 5 = bits .and .u32 (x / 33554432) 63 * 32 % 4294967296 := rfl
  rw [e, and63 (x / 33554432) (by omega) (by omega)]; omega
theorem pc_5_6_25 (x : Int) (x0 : 0 ≤ x) (x1 : x < 4294967296) : pc x 5 6 25 = x / 32 % 64 * 33554432 := by
  have e : pc x 5 6 25 = bits .and .u32 (x / 32) 63 * 33554432 % 4294967296 := rfl
  rw [e, and63 (x / 32) (by omega) (by omega)]; omega
theorem pc_8_4_1 (x : Int) (x0 : 0 ≤ x) (x1 : x < 4294967296) : pc x 8 4 1 = x / 256 % 16 * 2 := by
  have e : pc x 8 4 1 = bits .and .u32 (x / 256) 15 * 2 % 4294967296 := rfl
  rw [e, and15 (x / 256) (by omega) (by omega)]; omega
theorem pc_1_4_8 (x : Int) (x0 : 0 ≤ x) (x1 : x < 4294967296) : pc x 1 4 8 = x / 2 % 16 * 256 := by
  have e : pc x 1 4 8 = bits .and .u32 (x / 2) 15 * 256 % 4294967296 := rfl
  rw [e, and15 (x / 2) (by omega) (by omega)]; omega
theorem pc_25_7_5 (x : Int) (x0 : 0 ≤ x) (x1 : x < 4294967296) : pc x 25 7 5 = x / 33554432 % 128 * 32 := by
  have e : pc x 25 7 5 = bits .and .u32 (x / 33554432) 127 * 32 % 4294967296 := rfl
  rw [e, and127 (x / 33554432) (by omega) (by omega)]; omega
theorem pc_5_7_25 (x : Int) (x0 : 0 ≤ x) (x1 : x < 4294967296) : pc x 5 7 25 = x / 32 % 128 * 33554432 := by
  have e : pc x 5 7 25 = bits .and .u32 (x / 32) 127 * 33554432 % 4294967296 := rfl
  rw [e, and127 (x / 32) (by omega) (by omega)]; omega
theorem pc_7_5_0 (x : Int) (x0 : 0 ≤ x) (x1 : x < 4294967296) : pc x 7 5 0 = x / 128 % 32 * 1 := by
  have e : pc x 7 5 0 = bits .and .u32 (x / 128) 31 * 1 % 4294967296 := rfl
  rw [e, and31 (x / 128) (by omega) (by omega)]; omega
theorem pc_0_5_7 (x : Int) (x0 : 0 ≤ x) (x1 : x < 4294967296) : pc x 0 5 7 = x / 1 % 32 * 128 := by
  have e : pc x 0 5 7 = bits .and .u32 (x / 1) 31 * 128 % 4294967296 := rfl
  rw [e, and31 (x / 1) (by omega) (by omega)]; omega

theorem ib_U (x : Int) (x0 : 0 ≤ x) (x1 : x < 4294967296) : ib (fm 1) x 4 = x / 4096 % 1048576 * 4096 := by
  have e : ib (fm 1) x 4 = bits .or .u32 (bits .or .u32 (bits .or .u32 (bits .or .u32 0 (pc x 12 20 12)) (pc x 0 0 0)) (pc x 0 0 0)) (pc x 0 0 0) := rfl
  rw [e, pc_12_20_12 x x0 x1, pc_none x x0 x1]
  simp only [or_zero_bits]
  rw [or_slot 12 32 (by omega) 4096 4294967296 _ (x / 4096 % 1048576 * 4096) rfl rfl (by omega) (by omega) (or_mod (0) (0) (by omega) (by omega) (by omega) (by omega)) (by omega) (by omega) (by omega) (by omega)]
  omega

theorem ib_J (x : Int) (x0 : 0 ≤ x) (x1 : x < 4294967296) : ib (fm 2) x 4 = x / 2147483648 % 2 * 1048576 + x / 4096 % 256 * 4096 + x / 1048576 % 2 * 2048 + x / 2097152 % 1024 * 2 := by
  have e : ib (fm 2) x 4 = bits .or .u32 (bits .or .u32 (bits .or .u32 (bits .or .u32 0 (pc x 31 1 20)) (pc x 12 8 12)) (pc x 20 1 11)) (pc x 21 10 1) := rfl
  rw [e, pc_31_1_20 x x0 x1, pc_12_8_12 x x0 x1, pc_20_1_11 x x0 x1, pc_21_10_1 x x0 x1]
  rw [or_slot 20 21 (by omega) 1048576 2097152 _ (x / 2147483648 % 2 * 1048576) rfl rfl (by omega) (by omega) (or_mod (0) (0) (by omega) (by omega) (by omega) (by omega)) (by omega) (by omega) (by omega) (by omega)]
  rw [or_slot 12 20 (by omega) 4096 1048576 _ (x / 4096 % 256 * 4096) rfl rfl (by omega) (by omega) (or_mod ((x / 2147483648 % 2) * 1) (0) (by omega) (by omega) (by omega) (by omega)) (by omega) (by omega) (by omega) (by omega)]
  rw [or_slot 11 12 (by omega) 2048 4096 _ (x / 1048576 % 2 * 2048) rfl rfl (by omega) (by omega) (or_mod ((x / 2147483648 % 2) * 256 + (x / 4096 % 256) * 1) (0) (by omega) (by omega) (by omega) (by omega)) (by omega) (by omega) (by omega) (by omega)]
  rw [or_slot 1 11 (by omega) 2 2048 _ (x / 2097152 % 1024 * 2) rfl rfl (by omega) (by omega) (or_mod ((x / 2147483648 % 2) * 512 + (x / 4096 % 256) * 2 + (x / 1048576 % 2) * 1) (0) (by omega) (by omega) (by omega) (by omega)) (by omega) (by omega) (by omega) (by omega)]
  omega

theorem ib_I (x : Int) (x0 : 0 ≤ x) (x1 : x < 4294967296) : ib (fm 3) x 4 = x / 1048576 % 4096 * 1 := by
  have e : ib (fm 3) x 4 = bits .or .u32 (bits .or .u32 (bits .or .u32 (bits .or .u32 0 (pc x 20 12 0)) (pc x 0 0 0)) (pc x 0 0 0)) (pc x 0 0 0) := rfl
  rw [e, pc_20_12_0 x x0 x1, pc_none x x0 x1]
  simp only [or_zero_bits]
  rw [or_slot 0 12 (by omega) 1 4096 _ (x / 1048576 % 4096 * 1) rfl rfl (by omega) (by omega) (or_mod (0) (0) (by omega) (by omega) (by omega) (by omega)) (by omega) (by omega) (by omega) (by omega)]
  omega

theorem ib_H (x : Int) (x0 : 0 ≤ x) (x1 : x < 4294967296) : ib (fm 4) x 4 = x / 1048576 % 32 * 1 := by
  have e : ib (fm 4) x 4 = bits .or .u32 (bits .or .u32 (bits .or .u32 (bits .or .u32 0 (pc x 20 5 0)) (pc x 0 0 0)) (pc x 0 0 0)) (pc x 0 0 0) := rfl
  rw [e, pc_20_5_0 x x0 x1, pc_none x x0 x1]
  simp only [or_zero_bits]
  rw [or_slot 0 5 (by omega) 1 32 _ (x / 1048576 % 32 * 1) rfl rfl (by omega) (by omega) (or_mod (0) (0) (by omega) (by omega) (by omega) (by omega)) (by omega) (by omega) (by omega) (by omega)]
  omega

theorem ib_B (x : Int) (x0 : 0 ≤ x) (x1 : x < 4294967296) : ib (fm 5) x 4 = x / 2147483648 % 2 * 4096 + x / 128 % 2 * 2048 + x / 33554432 % 64 * 32 + x / 256 % 16 * 2 := by
  have e : ib (fm 5) x 4 = bits .or .u32 (bits .or .u32 (bits .or .u32 (bits .or .u32 0 (pc x 31 1 12)) (pc x 7 1 11)) (pc x 25 6 5)) (pc x 8 4 1) := rfl
  rw [e, pc_31_1_12 x x0 x1, pc_7_1_11 x x0 x1, pc_25_6_5 x x0 x1, pc_8_4_1 x x0 x1]
  rw [or_slot 12 13 (by omega) 4096 8192 _ (x / 2147483648 % 2 * 4096) rfl rfl (by omega) (by omega) (or_mod (0) (0) (by omega) (by omega) (by omega) (by omega)) (by omega) (by omega) (by omega) (by omega)]
  rw [or_slot 11 12 (by omega) 2048 4096 _ (x / 128 % 2 * 2048) rfl rfl (by omega) (by omega) (or_mod ((x / 2147483648 % 2) * 1) (0) (by omega) (by omega) (by omega) (by omega)) (by omega) (by omega) (by omega) (by omega)]
  rw [or_slot 5 11 (by omega) 32 2048 _ (x / 33554432 % 64 * 32) rfl rfl (by omega) (by omega) (or_mod ((x / 2147483648 % 2) * 2 + (x / 128 % 2) * 1) (0) (by omega) (by omega) (by omega) (by omega)) (by omega) (by omega) (by omega) (by omega)]
  rw [or_slot 1 5 (by omega) 2 32 _ (x / 256 % 16 * 2) rfl rfl (by omega) (by omega) (or_mod ((x / 2147483648 % 2) * 128 + (x / 128 % 2) * 64 + (x / 33554432 % 64) * 1) (0) (by omega) (by omega) (by omega) (by omega)) (by omega) (by omega) (by omega) (by omega)]
  omega

theorem ib_S (x : Int) (x0 : 0 ≤ x) (x1 : x < 4294967296) : ib (fm 6) x 4 = x / 33554432 % 128 * 32 + x / 128 % 32 * 1 := by
  have e : ib (fm 6) x 4 = bits .or .u32 (bits .or .u32 (bits .or .u32 (bits .or .u32 0 (pc x 25 7 5)) (pc x 7 5 0)) (pc x 0 0 0)) (pc x 0 0 0) := rfl
  rw [e, pc_25_7_5 x x0 x1, pc_7_5_0 x x0 x1, pc_none x x0 x1]
  simp only [or_zero_bits]
  rw [or_slot 5 12 (by omega) 32 4096 _ (x / 33554432 % 128 * 32) rfl rfl (by omega) (by omega) (or_mod (0) (0) (by omega) (by omega) (by omega) (by omega)) (by omega) (by omega) (by omega) (by omega)]
  rw [or_slot 0 5 (by omega) 1 32 _ (x / 128 % 32 * 1) rfl rfl (by omega) (by omega) (or_mod ((x / 33554432 % 128) * 1) (0) (by omega) (by omega) (by omega) (by omega)) (by omega) (by omega) (by omega) (by omega)]
  omega

theorem ib_R (x : Int) (x0 : 0 ≤ x) (x1 : x < 4294967296) : ib (fm 7) x 4 = 0 := by
  have e : ib (fm 7) x 4 = bits .or .u32 (bits .or .u32 (bits .or .u32 (bits .or .u32 0 (pc x 0 0 0)) (pc x 0 0 0)) (pc x 0 0 0)) (pc x 0 0 0) := rfl
  rw [e, pc_none x x0 x1]
  simp only [or_zero_bits]
  exact or_zero32 0 (by omega) (by omega)

theorem ib_E (x : Int) (x0 : 0 ≤ x) (x1 : x < 4294967296) : ib (fm 8) x 4 = 0 := by
  have e : ib (fm 8) x 4 = bits .or .u32 (bits .or .u32 (bits .or .u32 (bits .or .u32 0 (pc x 0 0 0)) (pc x 0 0 0)) (pc x 0 0 0)) (pc x 0 0 0) := rfl
  rw [e, pc_none x x0 x1]
  simp only [or_zero_bits]
  exact or_zero32 0 (by omega) (by omega)

theorem and31_mod (r : Int) : bits .and .u32 (r % 4294967296) 31 = r % 32 := by
  rw [and31 _ (by omega) (by omega)]; omega
theorem and0_mod (r : Int) : bits .and .u32 (r % 4294967296) 0 = 0 := and_zero32 _ (by omega) (by omega)
theorem reg_at (r : Int) : r % 32 * 128 % 4294967296 = r % 32 * 128 ∧ r % 32 * 32768 % 4294967296 = r % 32 * 32768 ∧ r % 32 * 1048576 % 4294967296 = r % 32 * 1048576 := by omega

theorem wb_U (rd rs1 rs2 imm : Int) : wb (fm 1) rd rs1 rs2 imm 4 = rd % 32 * 128 + imm % 4294967296 / 4096 % 1048576 * 4096 := by
  have e : wb (fm 1) rd rs1 rs2 imm 4 = bits .or .u32 (bits .or .u32 (bits .or .u32 (bits .or .u32 (bits .or .u32 (bits .or .u32 (bits .and .u32 (rd % 4294967296) 31 * 128 % 4294967296) (bits .and .u32 (rs1 % 4294967296) 0 * 32768 % 4294967296)) (bits .and .u32 (rs2 % 4294967296) 0 * 1048576 % 4294967296)) (pc (imm % 4294967296) 12 20 12)) (pc (imm % 4294967296) 0 0 0)) (pc (imm % 4294967296) 0 0 0)) (pc (imm % 4294967296) 0 0 0) := rfl
  have i0 : 0 ≤ imm % 4294967296 := by omega
  have i1 : imm % 4294967296 < 4294967296 := by omega
  rw [e]
  clear e
  simp only [and31_mod, and0_mod]
  rw [pc_12_20_12 _ i0 i1, pc_none _ i0 i1]
  simp only [or_zero_bits]
  rw [(reg_at rd).1, show (0 : Int) * 32768 % 4294967296 = 0 from rfl, show (0 : Int) * 1048576 % 4294967296 = 0 from rfl]
  generalize imm % 4294967296 = u at i0 i1 ⊢
  have hb_r0 : 0 ≤ rd % 32 ∧ rd % 32 < 32 := by omega
  generalize rd % 32 = r0 at hb_r0 ⊢
  have hb_q0 : 0 ≤ u / 4096 % 1048576 ∧ u / 4096 % 1048576 < 1048576 := by omega
  generalize u / 4096 % 1048576 = q0 at hb_q0 ⊢
  rw [or_zero_bits, or_zero32 _ (by omega) (by omega)]
  rw [or_slot 12 32 (by omega) 4096 4294967296 _ (q0 * 4096) rfl rfl (by omega) (by omega) (or_mod (0) (r0 * 128) (by omega) (by omega) (by omega) (by omega)) (by omega) (by omega) (by omega) (by omega)]

theorem wb_J (rd rs1 rs2 imm : Int) : wb (fm 2) rd rs1 rs2 imm 4 = rd % 32 * 128 + imm % 4294967296 / 1048576 % 2 * 2147483648 + imm % 4294967296 / 4096 % 256 * 4096 + imm % 4294967296 / 2048 % 2 * 1048576 + imm % 4294967296 / 2 % 1024 * 2097152 := by
  have e : wb (fm 2) rd rs1 rs2 imm 4 = bits .or .u32 (bits .or .u32 (bits .or .u32 (bits .or .u32 (bits .or .u32 (bits .or .u32 (bits .and .u32 (rd % 4294967296) 31 * 128 % 4294967296) (bits .and .u32 (rs1 % 4294967296) 0 * 32768 % 4294967296)) (bits .and .u32 (rs2 % 4294967296) 0 * 1048576 % 4294967296)) (pc (imm % 4294967296) 20 1 31)) (pc (imm % 4294967296) 12 8 12)) (pc (imm % 4294967296) 11 1 20)) (pc (imm % 4294967296) 1 10 21) := rfl
  have i0 : 0 ≤ imm % 4294967296 := by omega
  have i1 : imm % 4294967296 < 4294967296 := by omega
  rw [e]
  clear e
  simp only [and31_mod, and0_mod]
  rw [pc_20_1_31 _ i0 i1, pc_12_8_12 _ i0 i1, pc_11_1_20 _ i0 i1, pc_1_10_21 _ i0 i1]
  rw [(reg_at rd).1, show (0 : Int) * 32768 % 4294967296 = 0 from rfl, show (0 : Int) * 1048576 % 4294967296 = 0 from rfl]
  generalize imm % 4294967296 = u at i0 i1 ⊢
  have hb_r0 : 0 ≤ rd % 32 ∧ rd % 32 < 32 := by omega
  generalize rd % 32 = r0 at hb_r0 ⊢
  have hb_q0 : 0 ≤ u / 1048576 % 2 ∧ u / 1048576 % 2 < 2 := by omega
  generalize u / 1048576 % 2 = q0 at hb_q0 ⊢
  have hb_q1 : 0 ≤ u / 4096 % 256 ∧ u / 4096 % 256 < 256 := by omega
  generalize u / 4096 % 256 = q1 at hb_q1 ⊢
  have hb_q2 : 0 ≤ u / 2048 % 2 ∧ u / 2048 % 2 < 2 := by omega
  generalize u / 2048 % 2 = q2 at hb_q2 ⊢
  have hb_q3 : 0 ≤ u / 2 % 1024 ∧ u / 2 % 1024 < 1024 := by omega
  generalize u / 2 % 1024 = q3 at hb_q3 ⊢
  rw [or_zero_bits, or_zero32 _ (by omega) (by omega)]
  rw [or_slot 31 32 (by omega) 2147483648 4294967296 _ (q0 * 2147483648) rfl rfl (by omega) (by omega) (or_mod (0) (r0 * 128) (by omega) (by omega) (by omega) (by omega)) (by omega) (by omega) (by omega) (by omega)]
  rw [or_slot 12 20 (by omega) 4096 1048576 _ (q1 * 4096) rfl rfl (by omega) (by omega) (or_mod (q0 * 2048) (r0 * 128) (by omega) (by omega) (by omega) (by omega)) (by omega) (by omega) (by omega) (by omega)]
  rw [or_slot 20 21 (by omega) 1048576 2097152 _ (q2 * 1048576) rfl rfl (by omega) (by omega) (or_mod (q0 * 1024) (r0 * 128 + q1 * 4096) (by omega) (by omega) (by omega) (by omega)) (by omega) (by omega) (by omega) (by omega)]
  rw [or_slot 21 31 (by omega) 2097152 2147483648 _ (q3 * 2097152) rfl rfl (by omega) (by omega) (or_mod (q0 * 1) (r0 * 128 + q1 * 4096 + q2 * 1048576) (by omega) (by omega) (by omega) (by omega)) (by omega) (by omega) (by omega) (by omega)]

theorem wb_I (rd rs1 rs2 imm : Int) : wb (fm 3) rd rs1 rs2 imm 4 = rd % 32 * 128 + rs1 % 32 * 32768 + imm % 4294967296 / 1 % 4096 * 1048576 := by
  have e : wb (fm 3) rd rs1 rs2 imm 4 = bits .or .u32 (bits .or .u32 (bits .or .u32 (bits .or .u32 (bits .or .u32 (bits .or .u32 (bits .and .u32 (rd % 4294967296) 31 * 128 % 4294967296) (bits .and .u32 (rs1 % 4294967296) 31 * 32768 % 4294967296)) (bits .and .u32 (rs2 % 4294967296) 0 * 1048576 % 4294967296)) (pc (imm % 4294967296) 0 12 20)) (pc (imm % 4294967296) 0 0 0)) (pc (imm % 4294967296) 0 0 0)) (pc (imm % 4294967296) 0 0 0) := rfl
  have i0 : 0 ≤ imm % 4294967296 := by omega
  have i1 : imm % 4294967296 < 4294967296 := by omega
  rw [e]
  clear e
  simp only [and31_mod, and0_mod]
  rw [pc_0_12_20 _ i0 i1, pc_none _ i0 i1]
  simp only [or_zero_bits]
  rw [(reg_at rd).1, (reg_at rs1).2.1, show (0 : Int) * 1048576 % 4294967296 = 0 from rfl]
  generalize imm % 4294967296 = u at i0 i1 ⊢
  have hb_r0 : 0 ≤ rd % 32 ∧ rd % 32 < 32 := by omega
  generalize rd % 32 = r0 at hb_r0 ⊢
  have hb_r1 : 0 ≤ rs1 % 32 ∧ rs1 % 32 < 32 := by omega
  generalize rs1 % 32 = r1 at hb_r1 ⊢
  have hb_q0 : 0 ≤ u / 1 % 4096 ∧ u / 1 % 4096 < 4096 := by omega
  generalize u / 1 % 4096 = q0 at hb_q0 ⊢
  rw [or_slot 15 20 (by omega) 32768 1048576 _ (r1 * 32768) rfl rfl (by omega) (by omega) (or_mod (0) (r0 * 128) (by omega) (by omega) (by omega) (by omega)) (by omega) (by omega) (by omega) (by omega)]
  rw [or_zero32 _ (by omega) (by omega)]
  rw [or_slot 20 32 (by omega) 1048576 4294967296 _ (q0 * 1048576) rfl rfl (by omega) (by omega) (or_mod (0) (r0 * 128 + r1 * 32768) (by omega) (by omega) (by omega) (by omega)) (by omega) (by omega) (by omega) (by omega)]

theorem wb_H (rd rs1 rs2 imm : Int) : wb (fm 4) rd rs1 rs2 imm 4 = rd % 32 * 128 + rs1 % 32 * 32768 + imm % 4294967296 / 1 % 32 * 1048576 := by
  have e : wb (fm 4) rd rs1 rs2 imm 4 = bits .or .u32 (bits .or .u32 (bits .or .u32 (bits .or .u32 (bits .or .u32 (bits .or .u32 (bits .and .u32 (rd % 4294967296) 31 * 128 % 4294967296) (bits .and .u32 (rs1 % 4294967296) 31 * 32768 % 4294967296)) (bits .and .u32 (rs2 % 4294967296) 0 * 1048576 % 4294967296)) (pc (imm % 4294967296) 0 5 20)) (pc (imm % 4294967296) 0 0 0)) (pc (imm % 4294967296) 0 0 0)) (pc (imm % 4294967296) 0 0 0) := rfl
  have i0 : 0 ≤ imm % 4294967296 := by omega
  have i1 : imm % 4294967296 < 4294967296 := by omega
  rw [e]
  clear e
  simp only [and31_mod, and0_mod]
  rw [pc_0_5_20 _ i0 i1, pc_none _ i0 i1]
  simp only [or_zero_bits]
  rw [(reg_at rd).1, (reg_at rs1).2.1, show (0 : Int) * 1048576 % 4294967296 = 0 from rfl]
  generalize imm % 4294967296 = u at i0 i1 ⊢
  have hb_r0 : 0 ≤ rd % 32 ∧ rd % 32 < 32 := by omega
  generalize rd % 32 = r0 at hb_r0 ⊢
  have hb_r1 : 0 ≤ rs1 % 32 ∧ rs1 % 32 < 32 := by omega
  generalize rs1 % 32 = r1 at hb_r1 ⊢
  have hb_q0 : 0 ≤ u / 1 % 32 ∧ u / 1 % 32 < 32 := by omega
  generalize u / 1 % 32 = q0 at hb_q0 ⊢
  rw [or_slot 15 20 (by omega) 32768 1048576 _ (r1 * 32768) rfl rfl (by omega) (by omega) (or_mod (0) (r0 * 128) (by omega) (by omega) (by omega) (by omega)) (by omega) (by omega) (by omega) (by omega)]
  rw [or_zero32 _ (by omega) (by omega)]
  rw [or_slot 20 25 (by omega) 1048576 33554432 _ (q0 * 1048576) rfl rfl (by omega) (by omega) (or_mod (0) (r0 * 128 + r1 * 32768) (by omega) (by omega) (by omega) (by omega)) (by omega) (by omega) (by omega) (by omega)]

theorem wb_B (rd rs1 rs2 imm : Int) : wb (fm 5) rd rs1 rs2 imm 4 = rs1 % 32 * 32768 + rs2 % 32 * 1048576 + imm % 4294967296 / 4096 % 2 * 2147483648 + imm % 4294967296 / 2048 % 2 * 128 + imm % 4294967296 / 32 % 64 * 33554432 + imm % 4294967296 / 2 % 16 * 256 := by
  have e : wb (fm 5) rd rs1 rs2 imm 4 = bits .or .u32 (bits .or .u32 (bits .or .u32 (bits .or .u32 (bits .or .u32 (bits .or .u32 (bits .and .u32 (rd % 4294967296) 0 * 128 % 4294967296) (bits .and .u32 (rs1 % 4294967296) 31 * 32768 % 4294967296)) (bits .and .u32 (rs2 % 4294967296) 31 * 1048576 % 4294967296)) (pc (imm % 4294967296) 12 1 31)) (pc (imm % 4294967296) 11 1 7)) (pc (imm % 4294967296) 5 6 25)) (pc (imm % 4294967296) 1 4 8) := rfl
  have i0 : 0 ≤ imm % 4294967296 := by omega
  have i1 : imm % 4294967296 < 4294967296 := by omega
  rw [e]
  clear e
  simp only [and0_mod, and31_mod]
  rw [pc_12_1_31 _ i0 i1, pc_11_1_7 _ i0 i1, pc_5_6_25 _ i0 i1, pc_1_4_8 _ i0 i1]
  rw [show (0 : Int) * 128 % 4294967296 = 0 from rfl, (reg_at rs1).2.1, (reg_at rs2).2.2]
  generalize imm % 4294967296 = u at i0 i1 ⊢
  have hb_r1 : 0 ≤ rs1 % 32 ∧ rs1 % 32 < 32 := by omega
  generalize rs1 % 32 = r1 at hb_r1 ⊢
  have hb_r2 : 0 ≤ rs2 % 32 ∧ rs2 % 32 < 32 := by omega
  generalize rs2 % 32 = r2 at hb_r2 ⊢
  have hb_q0 : 0 ≤ u / 4096 % 2 ∧ u / 4096 % 2 < 2 := by omega
  generalize u / 4096 % 2 = q0 at hb_q0 ⊢
  have hb_q1 : 0 ≤ u / 2048 % 2 ∧ u / 2048 % 2 < 2 := by omega
  generalize u / 2048 % 2 = q1 at hb_q1 ⊢
  have hb_q2 : 0 ≤ u / 32 % 64 ∧ u / 32 % 64 < 64 := by omega
  generalize u / 32 % 64 = q2 at hb_q2 ⊢
  have hb_q3 : 0 ≤ u / 2 % 16 ∧ u / 2 % 16 < 16 := by omega
  generalize u / 2 % 16 = q3 at hb_q3 ⊢
  rw [or_slot 15 20 (by omega) 32768 1048576 _ (r1 * 32768) rfl rfl (by omega) (by omega) (or_mod (0) (0) (by omega) (by omega) (by omega) (by omega)) (by omega) (by omega) (by omega) (by omega)]
  rw [or_slot 20 25 (by omega) 1048576 33554432 _ (r2 * 1048576) rfl rfl (by omega) (by omega) (or_mod (0) (r1 * 32768) (by omega) (by omega) (by omega) (by omega)) (by omega) (by omega) (by omega) (by omega)]
  rw [or_slot 31 32 (by omega) 2147483648 4294967296 _ (q0 * 2147483648) rfl rfl (by omega) (by omega) (or_mod (0) (r1 * 32768 + r2 * 1048576) (by omega) (by omega) (by omega) (by omega)) (by omega) (by omega) (by omega) (by omega)]
  rw [or_slot 7 8 (by omega) 128 256 _ (q1 * 128) rfl rfl (by omega) (by omega) (or_mod (r1 * 128 + r2 * 4096 + q0 * 8388608) (0) (by omega) (by omega) (by omega) (by omega)) (by omega) (by omega) (by omega) (by omega)]
  rw [or_slot 25 31 (by omega) 33554432 2147483648 _ (q2 * 33554432) rfl rfl (by omega) (by omega) (or_mod (q0 * 1) (r1 * 32768 + r2 * 1048576 + q1 * 128) (by omega) (by omega) (by omega) (by omega)) (by omega) (by omega) (by omega) (by omega)]
  rw [or_slot 8 12 (by omega) 256 4096 _ (q3 * 256) rfl rfl (by omega) (by omega) (or_mod (r1 * 8 + r2 * 256 + q0 * 524288 + q2 * 8192) (q1 * 128) (by omega) (by omega) (by omega) (by omega)) (by omega) (by omega) (by omega) (by omega)]
  omega

theorem wb_S (rd rs1 rs2 imm : Int) : wb (fm 6) rd rs1 rs2 imm 4 = rs1 % 32 * 32768 + rs2 % 32 * 1048576 + imm % 4294967296 / 32 % 128 * 33554432 + imm % 4294967296 / 1 % 32 * 128 := by
  have e : wb (fm 6) rd rs1 rs2 imm 4 = bits .or .u32 (bits .or .u32 (bits .or .u32 (bits .or .u32 (bits .or .u32 (bits .or .u32 (bits .and .u32 (rd % 4294967296) 0 * 128 % 4294967296) (bits .and .u32 (rs1 % 4294967296) 31 * 32768 % 4294967296)) (bits .and .u32 (rs2 % 4294967296) 31 * 1048576 % 4294967296)) (pc (imm % 4294967296) 5 7 25)) (pc (imm % 4294967296) 0 5 7)) (pc (imm % 4294967296) 0 0 0)) (pc (imm % 4294967296) 0 0 0) := rfl
  have i0 : 0 ≤ imm % 4294967296 := by omega
  have i1 : imm % 4294967296 < 4294967296 := by omega
  rw [e]
  clear e
  simp only [and0_mod, and31_mod]
  rw [pc_5_7_25 _ i0 i1, pc_0_5_7 _ i0 i1, pc_none _ i0 i1]
  simp only [or_zero_bits]
  rw [show (0 : Int) * 128 % 4294967296 = 0 from rfl, (reg_at rs1).2.1, (reg_at rs2).2.2]
  generalize imm % 4294967296 = u at i0 i1 ⊢
  have hb_r1 : 0 ≤ rs1 % 32 ∧ rs1 % 32 < 32 := by omega
  generalize rs1 % 32 = r1 at hb_r1 ⊢
  have hb_r2 : 0 ≤ rs2 % 32 ∧ rs2 % 32 < 32 := by omega
  generalize rs2 % 32 = r2 at hb_r2 ⊢
  have hb_q0 : 0 ≤ u / 32 % 128 ∧ u / 32 % 128 < 128 := by omega
  generalize u / 32 % 128 = q0 at hb_q0 ⊢
  have hb_q1 : 0 ≤ u / 1 % 32 ∧ u / 1 % 32 < 32 := by omega
  generalize u / 1 % 32 = q1 at hb_q1 ⊢
  rw [or_slot 15 20 (by omega) 32768 1048576 _ (r1 * 32768) rfl rfl (by omega) (by omega) (or_mod (0) (0) (by omega) (by omega) (by omega) (by omega)) (by omega) (by omega) (by omega) (by omega)]
  rw [or_slot 20 25 (by omega) 1048576 33554432 _ (r2 * 1048576) rfl rfl (by omega) (by omega) (or_mod (0) (r1 * 32768) (by omega) (by omega) (by omega) (by omega)) (by omega) (by omega) (by omega) (by omega)]
  rw [or_slot 25 32 (by omega) 33554432 4294967296 _ (q0 * 33554432) rfl rfl (by omega) (by omega) (or_mod (0) (r1 * 32768 + r2 * 1048576) (by omega) (by omega) (by omega) (by omega)) (by omega) (by omega) (by omega) (by omega)]
  rw [or_slot 7 12 (by omega) 128 4096 _ (q1 * 128) rfl rfl (by omega) (by omega) (or_mod (r1 * 8 + r2 * 256 + q0 * 8192) (0) (by omega) (by omega) (by omega) (by omega)) (by omega) (by omega) (by omega) (by omega)]
  omega

theorem wb_R (rd rs1 rs2 imm : Int) : wb (fm 7) rd rs1 rs2 imm 4 = rd % 32 * 128 + rs1 % 32 * 32768 + rs2 % 32 * 1048576 := by
  have e : wb (fm 7) rd rs1 rs2 imm 4 = bits .or .u32 (bits .or .u32 (bits .or .u32 (bits .or .u32 (bits .or .u32 (bits .or .u32 (bits .and .u32 (rd % 4294967296) 31 * 128 % 4294967296) (bits .and .u32 (rs1 % 4294967296) 31 * 32768 % 4294967296)) (bits .and .u32 (rs2 % 4294967296) 31 * 1048576 % 4294967296)) (pc (imm % 4294967296) 0 0 0)) (pc (imm % 4294967296) 0 0 0)) (pc (imm % 4294967296) 0 0 0)) (pc (imm % 4294967296) 0 0 0) := rfl
  have i0 : 0 ≤ imm % 4294967296 := by omega
  have i1 : imm % 4294967296 < 4294967296 := by omega
  rw [e]
  clear e
  simp only [and31_mod]
  rw [pc_none _ i0 i1]
  simp only [or_zero_bits]
  rw [(reg_at rd).1, (reg_at rs1).2.1, (reg_at rs2).2.2]
  generalize imm % 4294967296 = u at i0 i1 ⊢
  have hb_r0 : 0 ≤ rd % 32 ∧ rd % 32 < 32 := by omega
  generalize rd % 32 = r0 at hb_r0 ⊢
  have hb_r1 : 0 ≤ rs1 % 32 ∧ rs1 % 32 < 32 := by omega
  generalize rs1 % 32 = r1 at hb_r1 ⊢
  have hb_r2 : 0 ≤ rs2 % 32 ∧ rs2 % 32 < 32 := by omega
  generalize rs2 % 32 = r2 at hb_r2 ⊢
  rw [or_slot 15 20 (by omega) 32768 1048576 _ (r1 * 32768) rfl rfl (by omega) (by omega) (or_mod (0) (r0 * 128) (by omega) (by omega) (by omega) (by omega)) (by omega) (by omega) (by omega) (by omega)]
  rw [or_slot 20 25 (by omega) 1048576 33554432 _ (r2 * 1048576) rfl rfl (by omega) (by omega) (or_mod (0) (r0 * 128 + r1 * 32768) (by omega) (by omega) (by omega) (by omega)) (by omega) (by omega) (by omega) (by omega)]

theorem wb_E (rd rs1 rs2 imm : Int) : wb (fm 8) rd rs1 rs2 imm 4 = 0 := by
  have e : wb (fm 8) rd rs1 rs2 imm 4 = bits .or .u32 (bits .or .u32 (bits .or .u32 (bits .or .u32 (bits .or .u32 (bits .or .u32 (bits .and .u32 (rd % 4294967296) 0 * 128 % 4294967296) (bits .and .u32 (rs1 % 4294967296) 0 * 32768 % 4294967296)) (bits .and .u32 (rs2 % 4294967296) 0 * 1048576 % 4294967296)) (pc (imm % 4294967296) 0 0 0)) (pc (imm % 4294967296) 0 0 0)) (pc (imm % 4294967296) 0 0 0)) (pc (imm % 4294967296) 0 0 0) := rfl
  have i0 : 0 ≤ imm % 4294967296 := by omega
  have i1 : imm % 4294967296 < 4294967296 := by omega
  rw [e]
  clear e
  simp only [and0_mod]
  rw [pc_none _ i0 i1]
  simp only [or_zero_bits]
  rw [show (0 : Int) * 128 % 4294967296 = 0 from rfl, show (0 : Int) * 32768 % 4294967296 = 0 from rfl, show (0 : Int) * 1048576 % 4294967296 = 0 from rfl]
  generalize imm % 4294967296 = u at i0 i1 ⊢
  rw [or_zero_bits, or_zero32 _ (by omega) (by omega)]
end Go.Proofs.YtpiohehijkpghaaDoor.Hy
namespace Go.Proofs.YtpiohehijkpghaaDoor.Hy
open Go.RowKit
set_option linter.unusedVariables false

/-- A number of so many bits, with its sign. -/
def sx (v half full : Int) : Int := if v < half then v else v - full

theorem rim_U (x : Int) (x0 : 0 ≤ x) (x1 : x < 4294967296) : rim (fm 1) x = sx (x / 4096 * 4096) 2147483648 4294967296 := by
  have e : rim (fm 1) x = wrap32 (ib (fm 1) x 4 * 1 % 4294967296) / 1 := rfl
  rw [e, ib_U x x0 x1]; unfold sx wrap32; split <;> omega
theorem rim_J (x : Int) (x0 : 0 ≤ x) (x1 : x < 4294967296) : rim (fm 2) x = sx (x / 2147483648 % 2 * 1048576 + x / 4096 % 256 * 4096 + x / 1048576 % 2 * 2048 + x / 2097152 % 1024 * 2) 1048576 2097152 := by
  have e : rim (fm 2) x = wrap32 (ib (fm 2) x 4 * 2048 % 4294967296) / 2048 := rfl
  rw [e, ib_J x x0 x1]
  have h : 0 ≤ x / 2147483648 % 2 * 1048576 + x / 4096 % 256 * 4096 + x / 1048576 % 2 * 2048 + x / 2097152 % 1024 * 2 ∧ x / 2147483648 % 2 * 1048576 + x / 4096 % 256 * 4096 + x / 1048576 % 2 * 2048 + x / 2097152 % 1024 * 2 < 2097152 := by omega
  revert h
  generalize x / 2147483648 % 2 * 1048576 + x / 4096 % 256 * 4096 + x / 1048576 % 2 * 2048 + x / 2097152 % 1024 * 2 = v
  intro h
  unfold sx wrap32; split <;> omega
theorem rim_I (x : Int) (x0 : 0 ≤ x) (x1 : x < 4294967296) : rim (fm 3) x = sx (x / 1048576) 2048 4096 := by
  have e : rim (fm 3) x = wrap32 (ib (fm 3) x 4 * 1048576 % 4294967296) / 1048576 := rfl
  rw [e, ib_I x x0 x1]; unfold sx wrap32; split <;> omega
theorem rim_H (x : Int) (x0 : 0 ≤ x) (x1 : x < 4294967296) : rim (fm 4) x = x / 1048576 % 32 := by
  have e : rim (fm 4) x = wrap32 (ib (fm 4) x 4 * 1 % 4294967296) / 1 := rfl
  rw [e, ib_H x x0 x1]; unfold wrap32; omega
theorem rim_B (x : Int) (x0 : 0 ≤ x) (x1 : x < 4294967296) : rim (fm 5) x = sx (x / 2147483648 % 2 * 4096 + x / 128 % 2 * 2048 + x / 33554432 % 64 * 32 + x / 256 % 16 * 2) 4096 8192 := by
  have e : rim (fm 5) x = wrap32 (ib (fm 5) x 4 * 524288 % 4294967296) / 524288 := rfl
  rw [e, ib_B x x0 x1]
  have h : 0 ≤ x / 2147483648 % 2 * 4096 + x / 128 % 2 * 2048 + x / 33554432 % 64 * 32 + x / 256 % 16 * 2 ∧ x / 2147483648 % 2 * 4096 + x / 128 % 2 * 2048 + x / 33554432 % 64 * 32 + x / 256 % 16 * 2 < 8192 := by omega
  revert h
  generalize x / 2147483648 % 2 * 4096 + x / 128 % 2 * 2048 + x / 33554432 % 64 * 32 + x / 256 % 16 * 2 = v
  intro h
  unfold sx wrap32; split <;> omega
theorem rim_S (x : Int) (x0 : 0 ≤ x) (x1 : x < 4294967296) : rim (fm 6) x = sx (x / 33554432 * 32 + x / 128 % 32) 2048 4096 := by
  have e : rim (fm 6) x = wrap32 (ib (fm 6) x 4 * 1048576 % 4294967296) / 1048576 := rfl
  rw [e, ib_S x x0 x1]
  have h : 0 ≤ x / 33554432 * 32 + x / 128 % 32 ∧ x / 33554432 * 32 + x / 128 % 32 < 4096 := by omega
  have e2 : x / 33554432 % 128 * 32 + x / 128 % 32 * 1 = x / 33554432 * 32 + x / 128 % 32 := by omega
  rw [e2]
  revert h
  generalize x / 33554432 * 32 + x / 128 % 32 = v
  intro h
  unfold sx wrap32; split <;> omega
theorem rim_R (x : Int) (x0 : 0 ≤ x) (x1 : x < 4294967296) : rim (fm 7) x = 0 := by
  have e : rim (fm 7) x = wrap32 (ib (fm 7) x 4 * 1 % 4294967296) / 1 := rfl
  rw [e, ib_R x x0 x1]; unfold wrap32; omega
theorem rim_E (x : Int) (x0 : 0 ≤ x) (x1 : x < 4294967296) : rim (fm 8) x = 0 := by
  have e : rim (fm 8) x = wrap32 (ib (fm 8) x 4 * 1 % 4294967296) / 1 := rfl
  rw [e, ib_E x x0 x1]; unfold wrap32; omega

theorem rrg_7 (x : Int) (x0 : 0 ≤ x) (x1 : x < 4294967296) : rrg x 128 31 = x / 128 % 32 := by
  unfold rrg; rw [and31 _ (by omega) (by omega)]; unfold wrap64; omega
theorem rrg_15 (x : Int) (x0 : 0 ≤ x) (x1 : x < 4294967296) : rrg x 32768 31 = x / 32768 % 32 := by
  unfold rrg; rw [and31 _ (by omega) (by omega)]; unfold wrap64; omega
theorem rrg_20 (x : Int) (x0 : 0 ≤ x) (x1 : x < 4294967296) : rrg x 1048576 31 = x / 1048576 % 32 := by
  unfold rrg; rw [and31 _ (by omega) (by omega)]; unfold wrap64; omega
theorem rrg_7z (x : Int) (x0 : 0 ≤ x) (x1 : x < 4294967296) : rrg x 128 0 = 0 := by
  unfold rrg; rw [and_zero32 _ (by omega) (by omega)]; unfold wrap64; omega
theorem rrg_15z (x : Int) (x0 : 0 ≤ x) (x1 : x < 4294967296) : rrg x 32768 0 = 0 := by
  unfold rrg; rw [and_zero32 _ (by omega) (by omega)]; unfold wrap64; omega
theorem rrg_20z (x : Int) (x0 : 0 ≤ x) (x1 : x < 4294967296) : rrg x 1048576 0 = 0 := by
  unfold rrg; rw [and_zero32 _ (by omega) (by omega)]; unfold wrap64; omega

/-- What the pieces of a number are. -/
theorem parts_J (q0 q1 q2 q3 : Int) (h0 : 0 ≤ q0 ∧ q0 < 2) (h1 : 0 ≤ q1 ∧ q1 < 256) (h2 : 0 ≤ q2 ∧ q2 < 2) (h3 : 0 ≤ q3 ∧ q3 < 1024) :
    let u := sx (q0 * 1048576 + q1 * 4096 + q2 * 2048 + q3 * 2) 1048576 2097152 % 4294967296
    u / 1048576 % 2 = q0 ∧ u / 4096 % 256 = q1 ∧ u / 2048 % 2 = q2 ∧ u / 2 % 1024 = q3 := by
  intro u
  have hu : u = q0 * 4293918720 + q1 * 4096 + q2 * 2048 + q3 * 2 := by
    show sx _ _ _ % _ = _
    unfold sx
    rcases (by omega : q0 = 0 ∨ q0 = 1) with rfl | rfl
    · rw [if_pos (by omega)]; omega
    · rw [if_neg (by omega)]; omega
  clear_value u
  subst hu
  rcases (by omega : q0 = 0 ∨ q0 = 1) with rfl | rfl <;> (refine ⟨?_, ?_, ?_, ?_⟩ <;> omega)

theorem parts_B (q0 q1 q2 q3 : Int) (h0 : 0 ≤ q0 ∧ q0 < 2) (h1 : 0 ≤ q1 ∧ q1 < 2) (h2 : 0 ≤ q2 ∧ q2 < 64) (h3 : 0 ≤ q3 ∧ q3 < 16) :
    let u := sx (q0 * 4096 + q1 * 2048 + q2 * 32 + q3 * 2) 4096 8192 % 4294967296
    u / 4096 % 2 = q0 ∧ u / 2048 % 2 = q1 ∧ u / 32 % 64 = q2 ∧ u / 2 % 16 = q3 := by
  intro u
  have hu : u = q0 * 4294963200 + q1 * 2048 + q2 * 32 + q3 * 2 := by
    show sx _ _ _ % _ = _
    unfold sx
    rcases (by omega : q0 = 0 ∨ q0 = 1) with rfl | rfl
    · rw [if_pos (by omega)]; omega
    · rw [if_neg (by omega)]; omega
  clear_value u
  subst hu
  rcases (by omega : q0 = 0 ∨ q0 = 1) with rfl | rfl <;> (rcases (by omega : q1 = 0 ∨ q1 = 1) with rfl | rfl <;> (refine ⟨?_, ?_, ?_, ?_⟩ <;> omega))

theorem parts_S (u p q : Int) (h : u % 4096 = p * 32 + q) (hp : 0 ≤ p ∧ p < 128) (hq : 0 ≤ q ∧ q < 32) : u / 32 % 128 = p ∧ u / 1 % 32 = q := by
  constructor <;> omega

/-- What a form makes of a word that it has read. -/
def anew (f : Nat) (x : Int) : Int := bits .or .u32 (bits .and .u32 x (fm f 0)) (wb (fm f) (rrg x 128 (fm f 1)) (rrg x 32768 (fm f 2)) (rrg x 1048576 (fm f 3)) (rim (fm f) x) 4)

theorem sx_U (x : Int) (x0 : 0 ≤ x) (x1 : x < 4294967296) : sx (x / 4096 * 4096) 2147483648 4294967296 % 4294967296 = x / 4096 * 4096 := by
  unfold sx; split <;> omega
theorem sx_12 (v : Int) (v0 : 0 ≤ v) (v1 : v < 4096) : sx v 2048 4096 % 4294967296 % 4096 = v := by
  unfold sx; split <;> omega

theorem anew_U (x : Int) (x0 : 0 ≤ x) (x1 : x < 4294967296) : anew 1 x = x := by
  have e : anew 1 x = bits .or .u32 (bits .and .u32 x 127) (wb (fm 1) (rrg x 128 31) (rrg x 32768 0) (rrg x 1048576 0) (rim (fm 1) x) 4) := rfl
  rw [e, and127 x x0 x1, wb_U, rrg_7 x x0 x1, rim_U x x0 x1, sx_U x x0 x1]
  have hb : x / 128 % 32 % 32 * 128 + x / 4096 * 4096 / 4096 % 1048576 * 4096 = x - x % 128 := by omega
  rw [hb]
  have := or_told (x % 128) 0 0 (x - x % 128) (by omega) (by omega) (by omega) (by omega) (by omega) (by omega) (by omega) (by omega) (by omega) (by omega) (by omega)
  rw [show x % 128 + 0 * 4096 + 0 * 33554432 = x % 128 by omega] at this
  rw [this]; omega

theorem anew_J (x : Int) (x0 : 0 ≤ x) (x1 : x < 4294967296) : anew 2 x = x := by
  have e : anew 2 x = bits .or .u32 (bits .and .u32 x 127) (wb (fm 2) (rrg x 128 31) (rrg x 32768 0) (rrg x 1048576 0) (rim (fm 2) x) 4) := rfl
  rw [e, and127 x x0 x1, wb_J, rrg_7 x x0 x1, rim_J x x0 x1]
  obtain ⟨p0, p1, p2, p3⟩ := parts_J (x / 2147483648 % 2) (x / 4096 % 256) (x / 1048576 % 2) (x / 2097152 % 1024) (by omega) (by omega) (by omega) (by omega)
  rw [p0, p1, p2, p3]
  clear p0 p1 p2 p3 e
  have hb : x / 128 % 32 % 32 * 128 + x / 2147483648 % 2 * 2147483648 + x / 4096 % 256 * 4096 + x / 1048576 % 2 * 1048576 + x / 2097152 % 1024 * 2097152 = x - x % 128 := by omega
  rw [hb]
  have := or_told (x % 128) 0 0 (x - x % 128) (by omega) (by omega) (by omega) (by omega) (by omega) (by omega) (by omega) (by omega) (by omega) (by omega) (by omega)
  rw [show x % 128 + 0 * 4096 + 0 * 33554432 = x % 128 by omega] at this
  rw [this]; omega

theorem join_I (x b : Int) (x0 : 0 ≤ x) (x1 : x < 4294967296) (hb : b = x - x % 128 - x / 4096 % 8 * 4096) : bits .or .u32 (x % 128 + x / 4096 % 8 * 4096) b = x := by
  subst hb
  have := or_told (x % 128) (x / 4096 % 8) 0 (x - x % 128 - x / 4096 % 8 * 4096) (by omega) (by omega) (by omega) (by omega) (by omega) (by omega) (by omega) (by omega) (by omega) (by omega) (by omega)
  rw [show x % 128 + x / 4096 % 8 * 4096 + 0 * 33554432 = x % 128 + x / 4096 % 8 * 4096 by omega] at this
  rw [this]; omega
theorem join_H (x b : Int) (x0 : 0 ≤ x) (x1 : x < 4294967296) (hb : b = x - x % 128 - x / 4096 % 8 * 4096 - x / 33554432 * 33554432) : bits .or .u32 (x % 128 + x / 4096 % 8 * 4096 + x / 33554432 * 33554432) b = x := by
  subst hb
  rw [or_told (x % 128) (x / 4096 % 8) (x / 33554432) _ (by omega) (by omega) (by omega) (by omega) (by omega) (by omega) (by omega) (by omega) (by omega) (by omega) (by omega)]
  omega

theorem anew_I (x : Int) (x0 : 0 ≤ x) (x1 : x < 4294967296) : anew 3 x = x := by
  have e : anew 3 x = bits .or .u32 (bits .and .u32 x 28799) (wb (fm 3) (rrg x 128 31) (rrg x 32768 31) (rrg x 1048576 0) (rim (fm 3) x) 4) := rfl
  rw [e, told_I x x0 x1, wb_I, rrg_7 x x0 x1, rrg_15 x x0 x1, rim_I x x0 x1]
  have h := sx_12 (x / 1048576) (by omega) (by omega)
  refine join_I x _ x0 x1 ?_
  rw [show sx (x / 1048576) 2048 4096 % 4294967296 / 1 % 4096 = x / 1048576 by omega]
  omega
theorem anew_H (x : Int) (x0 : 0 ≤ x) (x1 : x < 4294967296) : anew 4 x = x := by
  have e : anew 4 x = bits .or .u32 (bits .and .u32 x 4261441663) (wb (fm 4) (rrg x 128 31) (rrg x 32768 31) (rrg x 1048576 0) (rim (fm 4) x) 4) := rfl
  rw [e, told_H x x0 x1, wb_H, rrg_7 x x0 x1, rrg_15 x x0 x1, rim_H x x0 x1]
  refine join_H x _ x0 x1 ?_
  omega
theorem anew_B (x : Int) (x0 : 0 ≤ x) (x1 : x < 4294967296) : anew 5 x = x := by
  have e : anew 5 x = bits .or .u32 (bits .and .u32 x 28799) (wb (fm 5) (rrg x 128 0) (rrg x 32768 31) (rrg x 1048576 31) (rim (fm 5) x) 4) := rfl
  rw [e, told_I x x0 x1, wb_B, rrg_15 x x0 x1, rrg_20 x x0 x1, rim_B x x0 x1]
  obtain ⟨p0, p1, p2, p3⟩ := parts_B (x / 2147483648 % 2) (x / 128 % 2) (x / 33554432 % 64) (x / 256 % 16) (by omega) (by omega) (by omega) (by omega)
  rw [p0, p1, p2, p3]
  clear p0 p1 p2 p3 e
  refine join_I x _ x0 x1 ?_
  omega
theorem anew_S (x : Int) (x0 : 0 ≤ x) (x1 : x < 4294967296) : anew 6 x = x := by
  have e : anew 6 x = bits .or .u32 (bits .and .u32 x 28799) (wb (fm 6) (rrg x 128 0) (rrg x 32768 31) (rrg x 1048576 31) (rim (fm 6) x) 4) := rfl
  rw [e, told_I x x0 x1, wb_S, rrg_15 x x0 x1, rrg_20 x x0 x1, rim_S x x0 x1]
  have h := sx_12 (x / 33554432 * 32 + x / 128 % 32) (by omega) (by omega)
  refine join_I x _ x0 x1 ?_
  obtain ⟨a1, a2⟩ := parts_S _ _ _ h (by omega) (by omega)
  rw [a1, a2]
  clear a1 a2 h e
  omega
theorem anew_R (x : Int) (x0 : 0 ≤ x) (x1 : x < 4294967296) : anew 7 x = x := by
  have e : anew 7 x = bits .or .u32 (bits .and .u32 x 4261441663) (wb (fm 7) (rrg x 128 31) (rrg x 32768 31) (rrg x 1048576 31) (rim (fm 7) x) 4) := rfl
  rw [e, told_H x x0 x1, wb_R, rrg_7 x x0 x1, rrg_15 x x0 x1, rrg_20 x x0 x1]
  refine join_H x _ x0 x1 ?_
  omega
theorem anew_E (x : Int) (x0 : 0 ≤ x) (x1 : x < 4294967296) : anew 8 x = x := by
  have e : anew 8 x = bits .or .u32 (bits .and .u32 x 4294967295) (wb (fm 8) (rrg x 128 0) (rrg x 32768 0) (rrg x 1048576 0) (rim (fm 8) x) 4) := rfl
  rw [e, andAll x x0 x1, wb_E, or_zero32 x x0 x1]

theorem anew_any (f : Nat) (f1 : 1 ≤ f) (f2 : f < 9) (x : Int) (x0 : 0 ≤ x) (x1 : x < 4294967296) : anew f x = x := by
  rcases (by omega : f = 1 ∨ f = 2 ∨ f = 3 ∨ f = 4 ∨ f = 5 ∨ f = 6 ∨ f = 7 ∨ f = 8) with rfl | rfl | rfl | rfl | rfl | rfl | rfl | rfl
  · exact anew_U x x0 x1
  · exact anew_J x x0 x1
  · exact anew_I x x0 x1
  · exact anew_H x x0 x1
  · exact anew_B x x0 x1
  · exact anew_S x x0 x1
  · exact anew_R x x0 x1
  · exact anew_E x x0 x1
end Go.Proofs.YtpiohehijkpghaaDoor.Hy
