/- What each form reads in a word, and writes into one, as sums. Nothing of the program is named here. -/
import Derived.Test.YteadfdcnpfkmkaaDoorDecX
namespace Go.Proofs.YteadfdcnpfkmkaaDoor.Hy
open Go.RowKit

theorem pc_none (x : Int) (x0 : 0 ≤ x) (x1 : x < 4294967296) : pc x 0 0 0 = 0 := by
  have e : pc x 0 0 0 = bits .and .u32 (x / 1) 0 * 1 % 4294967296 := rfl
  rw [e, Int.ediv_one, and_zero32 x x0 x1]; rfl
theorem pc_12_20_12 (x : Int) (x0 : 0 ≤ x) (x1 : x < 4294967296) : pc x 12 20 12 = x / 4096 % 1048576 * 4096 := by
  have e : pc x 12 20 12 = bits .and .u32 (x / 4096) 1048575 * 4096 % 4294967296 := rfl
  rw [e, andM20 (x / 4096) (by omega) (by omega)]; omega
theorem pc_31_1_20 (x : Int) (x0 : 0 ≤ x) (x1 : x < 4294967296) : pc x 31 1 20 = x / 2147483648 % 2 * 1048576 := by
  have e : pc x 31 1 20 = bits .and .u32 (x / 2147483648) 1 * 1048576 % 4294967296 := rfl
  rw [e, and1 (x / 2147483648) (by omega) (by omega)]; omega
theorem pc_20_1_31 (x : Int) (x0 : 0 ≤ x) (x1 : x < 4294967296) : pc x 20 1 31 = x / 1048576 % 2 * 2147483648 := by
  have e : pc x 20 1 31 = bits .and .u32 (x / 1048576) 1 * 2147483648 % 4294967296 := rfl
  rw [e, and1 (x / 1048576) (by omega) (by omega)]; omega
theorem pc_12_8_12 (x : Int) (x0 : 0 ≤ x) (x1 : x < 4294967296) : pc x 12 8 12 = x / 4096 % 256 * 4096 := by
  have e : pc x 12 8 12 = bits .and .u32 (x / 4096) 255 * 4096 % 4294967296 := rfl
  rw [e, and255 (x / 4096) (by omega) (by omega)]; omega
theorem pc_20_1_11 (x : Int) (x0 : 0 ≤ x) (x1 : x < 4294967296) : pc x 20 1 11 = x / 1048576 % 2 * 2048 := by
  have e : pc x 20 1 11 = bits .and .u32 (x / 1048576) 1 * 2048 % 4294967296 := rfl
  rw [e, and1 (x / 1048576) (by omega) (by omega)]; omega
theorem pc_11_1_20 (x : Int) (x0 : 0 ≤ x) (x1 : x < 4294967296) : pc x 11 1 20 = x / 2048 % 2 * 1048576 := by
  have e : pc x 11 1 20 = bits .and .u32 (x / 2048) 1 * 1048576 % 4294967296 := rfl
  rw [e, and1 (x / 2048) (by omega) (by omega)]; omega
theorem pc_21_10_1 (x : Int) (x0 : 0 ≤ x) (x1 : x < 4294967296) : pc x 21 10 1 = x / 2097152 % 1024 * 2 := by
  have e : pc x 21 10 1 = bits .and .u32 (x / 2097152) 1023 * 2 % 4294967296 := rfl
  rw [e, and1023 (x / 2097152) (by omega) (by omega)]; omega
theorem pc_1_10_21 (x : Int) (x0 : 0 ≤ x) (x1 : x < 4294967296) : pc x 1 10 21 = x / 2 % 1024 * 2097152 := by
  have e : pc x 1 10 21 = bits .and .u32 (x / 2) 1023 * 2097152 % 4294967296 := rfl
  rw [e, and1023 (x / 2) (by omega) (by omega)]; omega
theorem pc_20_12_0 (x : Int) (x0 : 0 ≤ x) (x1 : x < 4294967296) : pc x 20 12 0 = x / 1048576 % 4096 * 1 := by
  have e : pc x 20 12 0 = bits .and .u32 (x / 1048576) 4095 * 1 % 4294967296 := rfl
  rw [e, and4095 (x / 1048576) (by omega) (by omega)]; omega
theorem pc_0_12_20 (x : Int) (x0 : 0 ≤ x) (x1 : x < 4294967296) : pc x 0 12 20 = x / 1 % 4096 * 1048576 := by
  have e : pc x 0 12 20 = bits .and .u32 (x / 1) 4095 * 1048576 % 4294967296 := rfl
  rw [e, and4095 (x / 1) (by omega) (by omega)]; omega
theorem pc_20_5_0 (x : Int) (x0 : 0 ≤ x) (x1 : x < 4294967296) : pc x 20 5 0 = x / 1048576 % 32 * 1 := by
  have e : pc x 20 5 0 = bits .and .u32 (x / 1048576) 31 * 1 % 4294967296 := rfl
  rw [e, and31 (x / 1048576) (by omega) (by omega)]; omega
theorem pc_0_5_20 (x : Int) (x0 : 0 ≤ x) (x1 : x < 4294967296) : pc x 0 5 20 = x / 1 % 32 * 1048576 := by
  have e : pc x 0 5 20 = bits .and .u32 (x / 1) 31 * 1048576 % 4294967296 := rfl
  rw [e, and31 (x / 1) (by omega) (by omega)]; omega
theorem pc_31_1_12 (x : Int) (x0 : 0 ≤ x) (x1 : x < 4294967296) : pc x 31 1 12 = x / 2147483648 % 2 * 4096 := by
  have e : pc x 31 1 12 = bits .and .u32 (x / 2147483648) 1 * 4096 % 4294967296 := rfl
  rw [e, and1 (x / 2147483648) (by omega) (by omega)]; omega
theorem pc_12_1_31 (x : Int) (x0 : 0 ≤ x) (x1 : x < 4294967296) : pc x 12 1 31 = x / 4096 % 2 * 2147483648 := by
  have e : pc x 12 1 31 = bits .and .u32 (x / 4096) 1 * 2147483648 % 4294967296 := rfl
  rw [e, and1 (x / 4096) (by omega) (by omega)]; omega
theorem pc_7_1_11 (x : Int) (x0 : 0 ≤ x) (x1 : x < 4294967296) : pc x 7 1 11 = x / 128 % 2 * 2048 := by
  have e : pc x 7 1 11 = bits .and .u32 (x / 128) 1 * 2048 % 4294967296 := rfl
  rw [e, and1 (x / 128) (by omega) (by omega)]; omega
theorem pc_11_1_7 (x : Int) (x0 : 0 ≤ x) (x1 : x < 4294967296) : pc x 11 1 7 = x / 2048 % 2 * 128 := by
  have e : pc x 11 1 7 = bits .and .u32 (x / 2048) 1 * 128 % 4294967296 := rfl
  rw [e, and1 (x / 2048) (by omega) (by omega)]; omega
theorem pc_25_6_5 (x : Int) (x0 : 0 ≤ x) (x1 : x < 4294967296) : pc x 25 6 5 = x / 33554432 % 64 * 32 := by
  have e : pc x 25 6 5 = bits .and .u32 (x / 33554432) 63 * 32 % 4294967296 := rfl
  rw [e, and63 (x / 33554432) (by omega) (by omega)]; omega
theorem pc_5_6_25 (x : Int) (x0 : 0 ≤ x) (x1 : x < 4294967296) : pc x 5 6 25 = x / 32 % 64 * 33554432 := by
  have e : pc x 5 6 25 = bits .and .u32 (x / 32) 63 * 33554432 % 4294967296 := rfl
  rw [e, and63 (x / 32) (by omega) (by omega)]; omega
theorem pc_8_4_1 (x : Int) (x0 : 0 ≤ x) (x1 : x < 4294967296) : pc x 8 4 1 = x / 256 % 16 * 2 := by
  have e : pc x 8 4 1 = bits .and .u32 (x / 256) 15 * 2 % 4294967296 := rfl
  rw [e, and15 (x / 256) (by omega) (by omega)]; omega
theorem pc_1_4_8 (x : Int) (x0 : 0 ≤ x) (x1 : x < 4294967296) : pc x 1 4 8 = x / 2 % 16 * 256 := by
  have e : pc x 1 4 8 = bits .and .u32 (x / 2) 15 * 256 % 4294967296 := rfl
  rw [e, and15 (x / 2) (by omega) (by omega)]; omega
theorem pc_25_7_5 (x : Int) (x0 : 0 ≤ x) (x1 : x < 4294967296) : pc x 25 7 5 = x / 33554432 % 128 * 32 := by
  have e : pc x 25 7 5 = bits .and .u32 (x / 33554432) 127 * 32 % 4294967296 := rfl
  rw [e, and127 (x / 33554432) (by omega) (by omega)]; omega
theorem pc_5_7_25 (x : Int) (x0 : 0 ≤ x) (x1 : x < 4294967296) : pc x 5 7 25 = x / 32 % 128 * 33554432 := by
  have e : pc x 5 7 25 = bits .and .u32 (x / 32) 127 * 33554432 % 4294967296 := rfl
  rw [e, and127 (x / 32) (by omega) (by omega)]; omega
theorem pc_7_5_0 (x : Int) (x0 : 0 ≤ x) (x1 : x < 4294967296) : pc x 7 5 0 = x / 128 % 32 * 1 := by
  have e : pc x 7 5 0 = bits .and .u32 (x / 128) 31 * 1 % 4294967296 := rfl
  rw [e, and31 (x / 128) (by omega) (by omega)]; omega
theorem pc_0_5_7 (x : Int) (x0 : 0 ≤ x) (x1 : x < 4294967296) : pc x 0 5 7 = x / 1 % 32 * 128 := by
  have e : pc x 0 5 7 = bits .and .u32 (x / 1) 31 * 128 % 4294967296 := rfl
  rw [e, and31 (x / 1) (by omega) (by omega)]; omega

theorem ib_U (x : Int) (x0 : 0 ≤ x) (x1 : x < 4294967296) : ib (fm 1) x 4 = x / 4096 % 1048576 * 4096 := by
  have e : ib (fm 1) x 4 = bits .or .u32 (bits .or .u32 (bits .or .u32 (bits .or .u32 0 (pc x 12 20 12)) (pc x 0 0 0)) (pc x 0 0 0)) (pc x 0 0 0) := rfl
  rw [e, pc_12_20_12 x x0 x1, pc_none x x0 x1]
  simp only [or_zero_bits]
  rw [or_slot 12 32 (by omega) 4096 4294967296 _ (x / 4096 % 1048576 * 4096) rfl rfl (by omega) (by omega) (or_mod (0) (0) (by omega) (by omega) (by omega) (by omega)) (by omega) (by omega) (by omega) (by omega)]
  omega

theorem ib_J (x : Int) (x0 : 0 ≤ x) (x1 : x < 4294967296) : ib (fm 2) x 4 = x / 2147483648 % 2 * 1048576 + x / 4096 % 256 * 4096 + x / 1048576 % 2 * 2048 + x / 2097152 % 1024 * 2 := by
  have e : ib (fm 2) x 4 = bits .or .u32 (bits .or .u32 (bits .or .u32 (bits .or .u32 0 (pc x 31 1 20)) (pc x 12 8 12)) (pc x 20 1 11)) (pc x 21 10 1) := rfl
  rw [e, pc_31_1_20 x x0 x1, pc_12_8_12 x x0 x1, pc_20_1_11 x x0 x1, pc_21_10_1 x x0 x1]
  rw [or_slot 20 21 (by omega) 1048576 2097152 _ (x / 2147483648 % 2 * 1048576) rfl rfl (by omega) (by omega) (or_mod (0) (0) (by omega) (by omega) (by omega) (by omega)) (by omega) (by omega) (by omega) (by omega)]
  rw [or_slot 12 20 (by omega) 4096 1048576 _ (x / 4096 % 256 * 4096) rfl rfl (by omega) (by omega) (or_mod ((x / 2147483648 % 2) * 1) (0) (by omega) (by omega) (by omega) (by omega)) (by omega) (by omega) (by omega) (by omega)]
  rw [or_slot 11 12 (by omega) 2048 4096 _ (x / 1048576 % 2 * 2048) rfl rfl (by omega) (by omega) (or_mod ((x / 2147483648 % 2) * 256 + (x / 4096 % 256) * 1) (0) (by omega) (by omega) (by omega) (by omega)) (by omega) (by omega) (by omega) (by omega)]
  rw [or_slot 1 11 (by omega) 2 2048 _ (x / 2097152 % 1024 * 2) rfl rfl (by omega) (by omega) (or_mod ((x / 2147483648 % 2) * 512 + (x / 4096 % 256) * 2 + (x / 1048576 % 2) * 1) (0) (by omega) (by omega) (by omega) (by omega)) (by omega) (by omega) (by omega) (by omega)]
  omega

theorem ib_I (x : Int) (x0 : 0 ≤ x) (x1 : x < 4294967296) : ib (fm 3) x 4 = x / 1048576 % 4096 * 1 := by
  have e : ib (fm 3) x 4 = bits .or .u32 (bits .or .u32 (bits .or .u32 (bits .or .u32 0 (pc x 20 12 0)) (pc x 0 0 0)) (pc x 0 0 0)) (pc x 0 0 0) := rfl
  rw [e, pc_20_12_0 x x0 x1, pc_none x x0 x1]
  simp only [or_zero_bits]
  rw [or_slot 0 12 (by omega) 1 4096 _ (x / 1048576 % 4096 * 1) rfl rfl (by omega) (by omega) (or_mod (0) (0) (by omega) (by omega) (by omega) (by omega)) (by omega) (by omega) (by omega) (by omega)]
  omega

theorem ib_H (x : Int) (x0 : 0 ≤ x) (x1 : x < 4294967296) : ib (fm 4) x 4 = x / 1048576 % 32 * 1 := by
  have e : ib (fm 4) x 4 = bits .or .u32 (bits .or .u32 (bits .or .u32 (bits .or .u32 0 (pc x 20 5 0)) (pc x 0 0 0)) (pc x 0 0 0)) (pc x 0 0 0) := rfl
  rw [e, pc_20_5_0 x x0 x1, pc_none x x0 x1]
  simp only [or_zero_bits]
  rw [or_slot 0 5 (by omega) 1 32 _ (x / 1048576 % 32 * 1) rfl rfl (by omega) (by omega) (or_mod (0) (0) (by omega) (by omega) (by omega) (by omega)) (by omega) (by omega) (by omega) (by omega)]
  omega

theorem ib_B (x : Int) (x0 : 0 ≤ x) (x1 : x < 4294967296) : ib (fm 5) x 4 = x / 2147483648 % 2 * 4096 + x / 128 % 2 * 2048 + x / 33554432 % 64 * 32 + x / 256 % 16 * 2 := by
  have e : ib (fm 5) x 4 = bits .or .u32 (bits .or .u32 (bits .or .u32 (bits .or .u32 0 (pc x 31 1 12)) (pc x 7 1 11)) (pc x 25 6 5)) (pc x 8 4 1) := rfl
  rw [e, pc_31_1_12 x x0 x1, pc_7_1_11 x x0 x1, pc_25_6_5 x x0 x1, pc_8_4_1 x x0 x1]
  rw [or_slot 12 13 (by omega) 4096 8192 _ (x / 2147483648 % 2 * 4096) rfl rfl (by omega) (by omega) (or_mod (0) (0) (by omega) (by omega) (by omega) (by omega)) (by omega) (by omega) (by omega) (by omega)]
  rw [or_slot 11 12 (by omega) 2048 4096 _ (x / 128 % 2 * 2048) rfl rfl (by omega) (by omega) (or_mod ((x / 2147483648 % 2) * 1) (0) (by omega) (by omega) (by omega) (by omega)) (by omega) (by omega) (by omega) (by omega)]
  rw [or_slot 5 11 (by omega) 32 2048 _ (x / 33554432 % 64 * 32) rfl rfl (by omega) (by omega) (or_mod ((x / 2147483648 % 2) * 2 + (x / 128 % 2) * 1) (0) (by omega) (by omega) (by omega) (by omega)) (by omega) (by omega) (by omega) (by omega)]
  rw [or_slot 1 5 (by omega) 2 32 _ (x / 256 % 16 * 2) rfl rfl (by omega) (by omega) (or_mod ((x / 2147483648 % 2) * 128 + (x / 128 % 2) * 64 + (x / 33554432 % 64) * 1) (0) (by omega) (by omega) (by omega) (by omega)) (by omega) (by omega) (by omega) (by omega)]
  omega

theorem ib_S (x : Int) (x0 : 0 ≤ x) (x1 : x < 4294967296) : ib (fm 6) x 4 = x / 33554432 % 128 * 32 + x / 128 % 32 * 1 := by
  have e : ib (fm 6) x 4 = bits .or .u32 (bits .or .u32 (bits .or .u32 (bits .or .u32 0 (pc x 25 7 5)) (pc x 7 5 0)) (pc x 0 0 0)) (pc x 0 0 0) := rfl
  rw [e, pc_25_7_5 x x0 x1, pc_7_5_0 x x0 x1, pc_none x x0 x1]
  simp only [or_zero_bits]
  rw [or_slot 5 12 (by omega) 32 4096 _ (x / 33554432 % 128 * 32) rfl rfl (by omega) (by omega) (or_mod (0) (0) (by omega) (by omega) (by omega) (by omega)) (by omega) (by omega) (by omega) (by omega)]
  rw [or_slot 0 5 (by omega) 1 32 _ (x / 128 % 32 * 1) rfl rfl (by omega) (by omega) (or_mod ((x / 33554432 % 128) * 1) (0) (by omega) (by omega) (by omega) (by omega)) (by omega) (by omega) (by omega) (by omega)]
  omega

theorem ib_R (x : Int) (x0 : 0 ≤ x) (x1 : x < 4294967296) : ib (fm 7) x 4 = 0 := by
  have e : ib (fm 7) x 4 = bits .or .u32 (bits .or .u32 (bits .or .u32 (bits .or .u32 0 (pc x 0 0 0)) (pc x 0 0 0)) (pc x 0 0 0)) (pc x 0 0 0) := rfl
  rw [e, pc_none x x0 x1]
  simp only [or_zero_bits]
  exact or_zero32 0 (by omega) (by omega)

theorem ib_E (x : Int) (x0 : 0 ≤ x) (x1 : x < 4294967296) : ib (fm 8) x 4 = 0 := by
  have e : ib (fm 8) x 4 = bits .or .u32 (bits .or .u32 (bits .or .u32 (bits .or .u32 0 (pc x 0 0 0)) (pc x 0 0 0)) (pc x 0 0 0)) (pc x 0 0 0) := rfl
  rw [e, pc_none x x0 x1]
  simp only [or_zero_bits]
  exact or_zero32 0 (by omega) (by omega)

theorem and31_mod (r : Int) : bits .and .u32 (r % 4294967296) 31 = r % 32 := by
  rw [and31 _ (by omega) (by omega)]; omega
theorem and0_mod (r : Int) : bits .and .u32 (r % 4294967296) 0 = 0 := and_zero32 _ (by omega) (by omega)
theorem reg_at (r : Int) : r % 32 * 128 % 4294967296 = r % 32 * 128 ∧ r % 32 * 32768 % 4294967296 = r % 32 * 32768 ∧ r % 32 * 1048576 % 4294967296 = r % 32 * 1048576 := by omega

theorem wb_U (rd rs1 rs2 imm : Int) : wb (fm 1) rd rs1 rs2 imm 4 = rd % 32 * 128 + imm % 4294967296 / 4096 % 1048576 * 4096 := by
  have e : wb (fm 1) rd rs1 rs2 imm 4 = bits .or .u32 (bits .or .u32 (bits .or .u32 (bits .or .u32 (bits .or .u32 (bits .or .u32 (bits .and .u32 (rd % 4294967296) 31 * 128 % 4294967296) (bits .and .u32 (rs1 % 4294967296) 0 * 32768 % 4294967296)) (bits .and .u32 (rs2 % 4294967296) 0 * 1048576 % 4294967296)) (pc (imm % 4294967296) 12 20 12)) (pc (imm % 4294967296) 0 0 0)) (pc (imm % 4294967296) 0 0 0)) (pc (imm % 4294967296) 0 0 0) := rfl
  have i0 : 0 ≤ imm % 4294967296 := by omega
  have i1 : imm % 4294967296 < 4294967296 := by omega
  rw [e]
  clear e
  simp only [and31_mod, and0_mod]
  rw [pc_12_20_12 _ i0 i1, pc_none _ i0 i1]
  simp only [or_zero_bits]
  rw [(reg_at rd).1, show (0 : Int) * 32768 % 4294967296 = 0 from rfl, show (0 : Int) * 1048576 % 4294967296 = 0 from rfl]
  generalize imm % 4294967296 = u at i0 i1 ⊢
  have hb_r0 : 0 ≤ rd % 32 ∧ rd % 32 < 32 := by omega
  generalize rd % 32 = r0 at hb_r0 ⊢
  have hb_q0 : 0 ≤ u / 4096 % 1048576 ∧ u / 4096 % 1048576 < 1048576 := by omega
  generalize u / 4096 % 1048576 = q0 at hb_q0 ⊢
  rw [or_zero_bits, or_zero32 _ (by omega) (by omega)]
  rw [or_slot 12 32 (by omega) 4096 4294967296 _ (q0 * 4096) rfl rfl (by omega) (by omega) (or_mod (0) (r0 * 128) (by omega) (by omega) (by omega) (by omega)) (by omega) (by omega) (by omega) (by omega)]

theorem wb_J (rd rs1 rs2 imm : Int) : wb (fm 2) rd rs1 rs2 imm 4 = rd % 32 * 128 + imm % 4294967296 / 1048576 % 2 * 2147483648 + imm % 4294967296 / 4096 % 256 * 4096 + imm % 4294967296 / 2048 % 2 * 1048576 + imm % 4294967296 / 2 % 1024 * 2097152 := by
  have e : wb (fm 2) rd rs1 rs2 imm 4 = bits .or .u32 (bits .or .u32 (bits .or .u32 (bits .or .u32 (bits .or .u32 (bits .or .u32 (bits .and .u32 (rd % 4294967296) 31 * 128 % 4294967296) (bits .and .u32 (rs1 % 4294967296) 0 * 32768 % 4294967296)) (bits .and .u32 (rs2 % 4294967296) 0 * 1048576 % 4294967296)) (pc (imm % 4294967296) 20 1 31)) (pc (imm % 4294967296) 12 8 12)) (pc (imm % 4294967296) 11 1 20)) (pc (imm % 4294967296) 1 10 21) := rfl
  have i0 : 0 ≤ imm % 4294967296 := by omega
  have i1 : imm % 4294967296 < 4294967296 := by omega
  rw [e]
  clear e
  simp only [and31_mod, and0_mod]
  rw [pc_20_1_31 _ i0 i1, pc_12_8_12 _ i0 i1, pc_11_1_20 _ i0 i1, pc_1_10_21 _ i0 i1]
  rw [(reg_at rd).1, show (0 : Int) * 32768 % 4294967296 = 0 from rfl, show (0 : Int) * 1048576 % 4294967296 = 0 from rfl]
  generalize imm % 4294967296 = u at i0 i1 ⊢
  have hb_r0 : 0 ≤ rd % 32 ∧ rd % 32 < 32 := by omega
  generalize rd % 32 = r0 at hb_r0 ⊢
  have hb_q0 : 0 ≤ u / 1048576 % 2 ∧ u / 1048576 % 2 < 2 := by omega
  generalize u / 1048576 % 2 = q0 at hb_q0 ⊢
  have hb_q1 : 0 ≤ u / 4096 % 256 ∧ u / 4096 % 256 < 256 := by omega
  generalize u / 4096 % 256 = q1 at hb_q1 ⊢
  have hb_q2 : 0 ≤ u / 2048 % 2 ∧ u / 2048 % 2 < 2 := by omega
  generalize u / 2048 % 2 = q2 at hb_q2 ⊢
  have hb_q3 : 0 ≤ u / 2 % 1024 ∧ u / 2 % 1024 < 1024 := by omega
  generalize u / 2 % 1024 = q3 at hb_q3 ⊢
  rw [or_zero_bits, or_zero32 _ (by omega) (by omega)]
  rw [or_slot 31 32 (by omega) 2147483648 4294967296 _ (q0 * 2147483648) rfl rfl (by omega) (by omega) (or_mod (0) (r0 * 128) (by omega) (by omega) (by omega) (by omega)) (by omega) (by omega) (by omega) (by omega)]
  rw [or_slot 12 20 (by omega) 4096 1048576 _ (q1 * 4096) rfl rfl (by omega) (by omega) (or_mod (q0 * 2048) (r0 * 128) (by omega) (by omega) (by omega) (by omega)) (by omega) (by omega) (by omega) (by omega)]
  rw [or_slot 20 21 (by omega) 1048576 2097152 _ (q2 * 1048576) rfl rfl (by omega) (by omega) (or_mod (q0 * 1024) (r0 * 128 + q1 * 4096) (by omega) (by omega) (by omega) (by omega)) (by omega) (by omega) (by omega) (by omega)]
  rw [or_slot 21 31 (by omega) 2097152 2147483648 _ (q3 * 2097152) rfl rfl (by omega) (by omega) (or_mod (q0 * 1) (r0 * 128 + q1 * 4096 + q2 * 1048576) (by omega) (by omega) (by omega) (by omega)) (by omega) (by omega) (by omega) (by omega)]

theorem wb_I (rd rs1 rs2 imm : Int) : wb (fm 3) rd rs1 rs2 imm 4 = rd % 32 * 128 + rs1 % 32 * 32768 + imm % 4294967296 / 1 % 4096 * 1048576 := by
  have e : wb (fm 3) rd rs1 rs2 imm 4 = bits .or .u32 (bits .or .u32 (bits .or .u32 (bits .or .u32 (bits .or .u32 (bits .or .u32 (bits .and .u32 (rd % 4294967296) 31 * 128 % 4294967296) (bits .and .u32 (rs1 % 4294967296) 31 * 32768 % 4294967296)) (bits .and .u32 (rs2 % 4294967296) 0 * 1048576 % 4294967296)) (pc (imm % 4294967296) 0 12 20)) (pc (imm % 4294967296) 0 0 0)) (pc (imm % 4294967296) 0 0 0)) (pc (imm % 4294967296) 0 0 0) := rfl
  have i0 : 0 ≤ imm % 4294967296 := by omega
  have i1 : imm % 4294967296 < 4294967296 := by omega
  rw [e]
  clear e
  simp only [and31_mod, and0_mod]
  rw [pc_0_12_20 _ i0 i1, pc_none _ i0 i1]
  simp only [or_zero_bits]
  rw [(reg_at rd).1, (reg_at rs1).2.1, show (0 : Int) * 1048576 % 4294967296 = 0 from rfl]
  generalize imm % 4294967296 = u at i0 i1 ⊢
  have hb_r0 : 0 ≤ rd % 32 ∧ rd % 32 < 32 := by omega
  generalize rd % 32 = r0 at hb_r0 ⊢
  have hb_r1 : 0 ≤ rs1 % 32 ∧ rs1 % 32 < 32 := by omega
  generalize rs1 % 32 = r1 at hb_r1 ⊢
  have hb_q0 : 0 ≤ u / 1 % 4096 ∧ u / 1 % 4096 < 4096 := by omega
  generalize u / 1 % 4096 = q0 at hb_q0 ⊢
  rw [or_slot 15 20 (by omega) 32768 1048576 _ (r1 * 32768) rfl rfl (by omega) (by omega) (or_mod (0) (r0 * 128) (by omega) (by omega) (by omega) (by omega)) (by omega) (by omega) (by omega) (by omega)]
  rw [or_zero32 _ (by omega) (by omega)]
  rw [or_slot 20 32 (by omega) 1048576 4294967296 _ (q0 * 1048576) rfl rfl (by omega) (by omega) (or_mod (0) (r0 * 128 + r1 * 32768) (by omega) (by omega) (by omega) (by omega)) (by omega) (by omega) (by omega) (by omega)]

theorem wb_H (rd rs1 rs2 imm : Int) : wb (fm 4) rd rs1 rs2 imm 4 = rd % 32 * 128 + rs1 % 32 * 32768 + imm % 4294967296 / 1 % 32 * 1048576 := by
  have e : wb (fm 4) rd rs1 rs2 imm 4 = bits .or .u32 (bits .or .u32 (bits .or .u32 (bits .or .u32 (bits .or .u32 (bits .or .u32 (bits .and .u32 (rd % 4294967296) 31 * 128 % 4294967296) (bits .and .u32 (rs1 % 4294967296) 31 * 32768 % 4294967296)) (bits .and .u32 (rs2 % 4294967296) 0 * 1048576 % 4294967296)) (pc (imm % 4294967296) 0 5 20)) (pc (imm % 4294967296) 0 0 0)) (pc (imm % 4294967296) 0 0 0)) (pc (imm % 4294967296) 0 0 0) := rfl
  have i0 : 0 ≤ imm % 4294967296 := by omega
  have i1 : imm % 4294967296 < 4294967296 := by omega
  rw [e]
  clear e
  simp only [and31_mod, and0_mod]
  rw [pc_0_5_20 _ i0 i1, pc_none _ i0 i1]
  simp only [or_zero_bits]
  rw [(reg_at rd).1, (reg_at rs1).2.1, show (0 : Int) * 1048576 % 4294967296 = 0 from rfl]
  generalize imm % 4294967296 = u at i0 i1 ⊢
  have hb_r0 : 0 ≤ rd % 32 ∧ rd % 32 < 32 := by omega
  generalize rd % 32 = r0 at hb_r0 ⊢
  have hb_r1 : 0 ≤ rs1 % 32 ∧ rs1 % 32 < 32 := by omega
  generalize rs1 % 32 = r1 at hb_r1 ⊢
  have hb_q0 : 0 ≤ u / 1 % 32 ∧ u / 1 % 32 < 32 := by omega
  generalize u / 1 % 32 = q0 at hb_q0 ⊢
  rw [or_slot 15 20 (by omega) 32768 1048576 _ (r1 * 32768) rfl rfl (by omega) (by omega) (or_mod (0) (r0 * 128) (by omega) (by omega) (by omega) (by omega)) (by omega) (by omega) (by omega) (by omega)]
  rw [or_zero32 _ (by omega) (by omega)]
  rw [or_slot 20 25 (by omega) 1048576 33554432 _ (q0 * 1048576) rfl rfl (by omega) (by omega) (or_mod (0) (r0 * 128 + r1 * 32768) (by omega) (by omega) (by omega) (by omega)) (by omega) (by omega) (by omega) (by omega)]

theorem wb_B (rd rs1 rs2 imm : Int) : wb (fm 5) rd rs1 rs2 imm 4 = rs1 % 32 * 32768 + rs2 % 32 * 1048576 + imm % 4294967296 / 4096 % 2 * 2147483648 + imm % 4294967296 / 2048 % 2 * 128 + imm % 4294967296 / 32 % 64 * 33554432 + imm % 4294967296 / 2 % 16 * 256 := by
  have e : wb (fm 5) rd rs1 rs2 imm 4 = bits .or .u32 (bits .or .u32 (bits .or .u32 (bits .or .u32 (bits .or .u32 (bits .or .u32 (bits .and .u32 (rd % 4294967296) 0 * 128 % 4294967296) (bits .and .u32 (rs1 % 4294967296) 31 * 32768 % 4294967296)) (bits .and .u32 (rs2 % 4294967296) 31 * 1048576 % 4294967296)) (pc (imm % 4294967296) 12 1 31)) (pc (imm % 4294967296) 11 1 7)) (pc (imm % 4294967296) 5 6 25)) (pc (imm % 4294967296) 1 4 8) := rfl
  have i0 : 0 ≤ imm % 4294967296 := by omega
  have i1 : imm % 4294967296 < 4294967296 := by omega
  rw [e]
  clear e
  simp only [and0_mod, and31_mod]
  rw [pc_12_1_31 _ i0 i1, pc_11_1_7 _ i0 i1, pc_5_6_25 _ i0 i1, pc_1_4_8 _ i0 i1]
  rw [show (0 : Int) * 128 % 4294967296 = 0 from rfl, (reg_at rs1).2.1, (reg_at rs2).2.2]
  generalize imm % 4294967296 = u at i0 i1 ⊢
  have hb_r1 : 0 ≤ rs1 % 32 ∧ rs1 % 32 < 32 := by omega
  generalize rs1 % 32 = r1 at hb_r1 ⊢
  have hb_r2 : 0 ≤ rs2 % 32 ∧ rs2 % 32 < 32 := by omega
  generalize rs2 % 32 = r2 at hb_r2 ⊢
  have hb_q0 : 0 ≤ u / 4096 % 2 ∧ u / 4096 % 2 < 2 := by omega
  generalize u / 4096 % 2 = q0 at hb_q0 ⊢
  have hb_q1 : 0 ≤ u / 2048 % 2 ∧ u / 2048 % 2 < 2 := by omega
  generalize u / 2048 % 2 = q1 at hb_q1 ⊢
  have hb_q2 : 0 ≤ u / 32 % 64 ∧ u / 32 % 64 < 64 := by omega
  generalize u / 32 % 64 = q2 at hb_q2 ⊢
  have hb_q3 : 0 ≤ u / 2 % 16 ∧ u / 2 % 16 < 16 := by omega
  generalize u / 2 % 16 = q3 at hb_q3 ⊢
  rw [or_slot 15 20 (by omega) 32768 1048576 _ (r1 * 32768) rfl rfl (by omega) (by omega) (or_mod (0) (0) (by omega) (by omega) (by omega) (by omega)) (by omega) (by omega) (by omega) (by omega)]
  rw [or_slot 20 25 (by omega) 1048576 33554432 _ (r2 * 1048576) rfl rfl (by omega) (by omega) (or_mod (0) (r1 * 32768) (by omega) (by omega) (by omega) (by omega)) (by omega) (by omega) (by omega) (by omega)]
  rw [or_slot 31 32 (by omega) 2147483648 4294967296 _ (q0 * 2147483648) rfl rfl (by omega) (by omega) (or_mod (0) (r1 * 32768 + r2 * 1048576) (by omega) (by omega) (by omega) (by omega)) (by omega) (by omega) (by omega) (by omega)]
  rw [or_slot 7 8 (by omega) 128 256 _ (q1 * 128) rfl rfl (by omega) (by omega) (or_mod (r1 * 128 + r2 * 4096 + q0 * 8388608) (0) (by omega) (by omega) (by omega) (by omega)) (by omega) (by omega) (by omega) (by omega)]
  rw [or_slot 25 31 (by omega) 33554432 2147483648 _ (q2 * 33554432) rfl rfl (by omega) (by omega) (or_mod (q0 * 1) (r1 * 32768 + r2 * 1048576 + q1 * 128) (by omega) (by omega) (by omega) (by omega)) (by omega) (by omega) (by omega) (by omega)]
  rw [or_slot 8 12 (by omega) 256 4096 _ (q3 * 256) rfl rfl (by omega) (by omega) (or_mod (r1 * 8 + r2 * 256 + q0 * 524288 + q2 * 8192) (q1 * 128) (by omega) (by omega) (by omega) (by omega)) (by omega) (by omega) (by omega) (by omega)]
  omega

theorem wb_S (rd rs1 rs2 imm : Int) : wb (fm 6) rd rs1 rs2 imm 4 = rs1 % 32 * 32768 + rs2 % 32 * 1048576 + imm % 4294967296 / 32 % 128 * 33554432 + imm % 4294967296 / 1 % 32 * 128 := by
  have e : wb (fm 6) rd rs1 rs2 imm 4 = bits .or .u32 (bits .or .u32 (bits .or .u32 (bits .or .u32 (bits .or .u32 (bits .or .u32 (bits .and .u32 (rd % 4294967296) 0 * 128 % 4294967296) (bits .and .u32 (rs1 % 4294967296) 31 * 32768 % 4294967296)) (bits .and .u32 (rs2 % 4294967296) 31 * 1048576 % 4294967296)) (pc (imm % 4294967296) 5 7 25)) (pc (imm % 4294967296) 0 5 7)) (pc (imm % 4294967296) 0 0 0)) (pc (imm % 4294967296) 0 0 0) := rfl
  have i0 : 0 ≤ imm % 4294967296 := by omega
  have i1 : imm % 4294967296 < 4294967296 := by omega
  rw [e]
  clear e
  simp only [and0_mod, and31_mod]
  rw [pc_5_7_25 _ i0 i1, pc_0_5_7 _ i0 i1, pc_none _ i0 i1]
  simp only [or_zero_bits]
  rw [show (0 : Int) * 128 % 4294967296 = 0 from rfl, (reg_at rs1).2.1, (reg_at rs2).2.2]
  generalize imm % 4294967296 = u at i0 i1 ⊢
  have hb_r1 : 0 ≤ rs1 % 32 ∧ rs1 % 32 < 32 := by omega
  generalize rs1 % 32 = r1 at hb_r1 ⊢
  have hb_r2 : 0 ≤ rs2 % 32 ∧ rs2 % 32 < 32 := by omega
  generalize rs2 % 32 = r2 at hb_r2 ⊢
  have hb_q0 : 0 ≤ u / 32 % 128 ∧ u / 32 % 128 < 128 := by omega
  generalize u / 32 % 128 = q0 at hb_q0 ⊢
  have hb_q1 : 0 ≤ u / 1 % 32 ∧ u / 1 % 32 < 32 := by omega
  generalize u / 1 % 32 = q1 at hb_q1 ⊢
  rw [or_slot 15 20 (by omega) 32768 1048576 _ (r1 * 32768) rfl rfl (by omega) (by omega) (or_mod (0) (0) (by omega) (by omega) (by omega) (by omega)) (by omega) (by omega) (by omega) (by omega)]
  rw [or_slot 20 25 (by omega) 1048576 33554432 _ (r2 * 1048576) rfl rfl (by omega) (by omega) (or_mod (0) (r1 * 32768) (by omega) (by omega) (by omega) (by omega)) (by omega) (by omega) (by omega) (by omega)]
  rw [or_slot 25 32 (by omega) 33554432 4294967296 _ (q0 * 33554432) rfl rfl (by omega) (by omega) (or_mod (0) (r1 * 32768 + r2 * 1048576) (by omega) (by omega) (by omega) (by omega)) (by omega) (by omega) (by omega) (by omega)]
  rw [or_slot 7 12 (by omega) 128 4096 _ (q1 * 128) rfl rfl (by omega) (by omega) (or_mod (r1 * 8 + r2 * 256 + q0 * 8192) (0) (by omega) (by omega) (by omega) (by omega)) (by omega) (by omega) (by omega) (by omega)]
  omega

theorem wb_R (rd rs1 rs2 imm : Int) : wb (fm 7) rd rs1 rs2 imm 4 = rd % 32 * 128 + rs1 % 32 * 32768 + rs2 % 32 * 1048576 := by
  have e : wb (fm 7) rd rs1 rs2 imm 4 = bits .or .u32 (bits .or .u32 (bits .or .u32 (bits .or .u32 (bits .or .u32 (bits .or .u32 (bits .and .u32 (rd % 4294967296) 31 * 128 % 4294967296) (bits .and .u32 (rs1 % 4294967296) 31 * 32768 % 4294967296)) (bits .and .u32 (rs2 % 4294967296) 31 * 1048576 % 4294967296)) (pc (imm % 4294967296) 0 0 0)) (pc (imm % 4294967296) 0 0 0)) (pc (imm % 4294967296) 0 0 0)) (pc (imm % 4294967296) 0 0 0) := rfl
  have i0 : 0 ≤ imm % 4294967296 := by omega
  have i1 : imm % 4294967296 < 4294967296 := by omega
  rw [e]
  clear e
  simp only [and31_mod]
  rw [pc_none _ i0 i1]
  simp only [or_zero_bits]
  rw [(reg_at rd).1, (reg_at rs1).2.1, (reg_at rs2).2.2]
  generalize imm % 4294967296 = u at i0 i1 ⊢
  have hb_r0 : 0 ≤ rd % 32 ∧ rd % 32 < 32 := by omega
  generalize rd % 32 = r0 at hb_r0 ⊢
  have hb_r1 : 0 ≤ rs1 % 32 ∧ rs1 % 32 < 32 := by omega
  generalize rs1 % 32 = r1 at hb_r1 ⊢
  have hb_r2 : 0 ≤ rs2 % 32 ∧ rs2 % 32 < 32 := by omega
  generalize rs2 % 32 = r2 at hb_r2 ⊢
  rw [or_slot 15 20 (by omega) 32768 1048576 _ (r1 * 32768) rfl rfl (by omega) (by omega) (or_mod (0) (r0 * 128) (by omega) (by omega) (by omega) (by omega)) (by omega) (by omega) (by omega) (by omega)]
  rw [or_slot 20 25 (by omega) 1048576 33554432 _ (r2 * 1048576) rfl rfl (by omega) (by omega) (or_mod (0) (r0 * 128 + r1 * 32768) (by omega) (by omega) (by omega) (by omega)) (by omega) (by omega) (by omega) (by omega)]

theorem wb_E (rd rs1 rs2 imm : Int) : wb (fm 8) rd rs1 rs2 imm 4 = 0 := by
  have e : wb (fm 8) rd rs1 rs2 imm 4 = bits .or .u32 (bits .or .u32 (bits .or .u32 (bits .or .u32 (bits .or .u32 (bits .or .u32 (bits .and .u32 (rd % 4294967296) 0 * 128 % 4294967296) (bits .and .u32 (rs1 % 4294967296) 0 * 32768 % 4294967296)) (bits .and .u32 (rs2 % 4294967296) 0 * 1048576 % 4294967296)) (pc (imm % 4294967296) 0 0 0)) (pc (imm % 4294967296) 0 0 0)) (pc (imm % 4294967296) 0 0 0)) (pc (imm % 4294967296) 0 0 0) := rfl
  have i0 : 0 ≤ imm % 4294967296 := by omega
  have i1 : imm % 4294967296 < 4294967296 := by omega
  rw [e]
  clear e
  simp only [and0_mod]
  rw [pc_none _ i0 i1]
  simp only [or_zero_bits]
  rw [show (0 : Int) * 128 % 4294967296 = 0 from rfl, show (0 : Int) * 32768 % 4294967296 = 0 from rfl, show (0 : Int) * 1048576 % 4294967296 = 0 from rfl]
  generalize imm % 4294967296 = u at i0 i1 ⊢
  rw [or_zero_bits, or_zero32 _ (by omega) (by omega)]
end Go.Proofs.YteadfdcnpfkmkaaDoor.Hy
