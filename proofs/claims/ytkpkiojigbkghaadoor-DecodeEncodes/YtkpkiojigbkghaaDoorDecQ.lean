/- An instruction whose fields its form has room for is read again from the word that is written for it. Nothing of the program is named here. -/
import Derived.Test.YtkpkiojigbkghaaDoorRefH
namespace Go.Proofs.YtkpkiojigbkghaaDoor.Hy
open Go.RowKit
set_option linter.unusedVariables false

/-- The fields that a form has room for. -/
def isf (f : Nat) (rd rs1 rs2 imm : Int) : Prop :=
  if f = 1 then 0 ≤ rd ∧ rd ≤ 31 ∧ rs1 = 0 ∧ rs2 = 0 ∧ imm % 4096 = 0
  else if f = 2 then 0 ≤ rd ∧ rd ≤ 31 ∧ rs1 = 0 ∧ rs2 = 0 ∧ -1048576 ≤ imm ∧ imm ≤ 1048574 ∧ imm % 2 = 0
  else if f = 3 then 0 ≤ rd ∧ rd ≤ 31 ∧ 0 ≤ rs1 ∧ rs1 ≤ 31 ∧ rs2 = 0 ∧ -2048 ≤ imm ∧ imm ≤ 2047
  else if f = 4 then 0 ≤ rd ∧ rd ≤ 31 ∧ 0 ≤ rs1 ∧ rs1 ≤ 31 ∧ rs2 = 0 ∧ 0 ≤ imm ∧ imm ≤ 31
  else if f = 5 then rd = 0 ∧ 0 ≤ rs1 ∧ rs1 ≤ 31 ∧ 0 ≤ rs2 ∧ rs2 ≤ 31 ∧ -4096 ≤ imm ∧ imm ≤ 4094 ∧ imm % 2 = 0
  else if f = 6 then rd = 0 ∧ 0 ≤ rs1 ∧ rs1 ≤ 31 ∧ 0 ≤ rs2 ∧ rs2 ≤ 31 ∧ -2048 ≤ imm ∧ imm ≤ 2047
  else if f = 7 then 0 ≤ rd ∧ rd ≤ 31 ∧ 0 ≤ rs1 ∧ rs1 ≤ 31 ∧ 0 ≤ rs2 ∧ rs2 ≤ 31 ∧ imm = 0
  else rd = 0 ∧ rs1 = 0 ∧ rs2 = 0 ∧ imm = 0

/-- What a form reads in a word. -/
def reads (f : Nat) (X rd rs1 rs2 imm : Int) : Prop := rrg X 128 (fm f 1) = rd ∧ rrg X 32768 (fm f 2) = rs1 ∧ rrg X 1048576 (fm f 3) = rs2 ∧ rim (fm f) X = imm

theorem or_lo (lo b : Int) (l0 : 0 ≤ lo) (l1 : lo < 128) (b0 : 0 ≤ b) (b1 : b < 4294967296) (hl : b % 128 = 0) : bits .or .u32 lo b = lo + b := by
  have h := or_told lo 0 0 b l0 l1 (by omega) (by omega) (by omega) (by omega) b0 b1 hl (by omega) (by omega)
  rw [show lo + 0 * 4096 + 0 * 33554432 = lo by omega] at h
  exact h
theorem or_lm (lo mi b : Int) (l0 : 0 ≤ lo) (l1 : lo < 128) (m0 : 0 ≤ mi) (m1 : mi < 8) (b0 : 0 ≤ b) (b1 : b < 4294967296) (hl : b % 128 = 0) (hm : b / 4096 % 8 = 0) : bits .or .u32 (lo + mi * 4096) b = lo + mi * 4096 + b := by
  have h := or_told lo mi 0 b l0 l1 m0 m1 (by omega) (by omega) b0 b1 hl (.inr hm) (by omega)
  rw [show lo + mi * 4096 + 0 * 33554432 = lo + mi * 4096 by omega] at h
  exact h

/-- A digit of a number. -/
theorem dig {X P Q : Int} (hi d lo : Int) (h : X = hi * (P * Q) + d * P + lo) (l0 : 0 ≤ lo) (l1 : lo < P) (d0 : 0 ≤ d) (d1 : d < Q) : X / P % Q = d := by
  have hP : P ≠ 0 := by omega
  have e : X = lo + (hi * Q + d) * P := by rw [h, Int.add_mul, Int.mul_assoc hi Q P, Int.mul_comm Q P]; omega
  rw [e, Int.add_mul_ediv_right _ _ hP, Int.ediv_eq_zero_of_lt l0 l1, Int.zero_add, Int.add_comm, Int.add_mul_emod_self_right, Int.emod_eq_of_lt d0 d1]
theorem digs {X P : Int} (d lo : Int) (h : X = d * P + lo) (l0 : 0 ≤ lo) (l1 : lo < P) : X / P = d := by
  have hP : P ≠ 0 := by omega
  have e : X = lo + d * P := by omega
  rw [e, Int.add_mul_ediv_right _ _ hP, Int.ediv_eq_zero_of_lt l0 l1, Int.zero_add]
theorem digl {X Q : Int} (hi d : Int) (h : X = hi * Q + d) (d0 : 0 ≤ d) (d1 : d < Q) : X % Q = d := by
  rw [h, Int.add_comm, Int.add_mul_emod_self_right, Int.emod_eq_of_lt d0 d1]

theorem at_J (K rd q0 q1 q2 q3 X : Int) (k : 0 ≤ K ∧ K < 128) (d : 0 ≤ rd ∧ rd < 32) (b0 : 0 ≤ q0 ∧ q0 < 2) (b1 : 0 ≤ q1 ∧ q1 < 256) (b2 : 0 ≤ q2 ∧ q2 < 2) (b3 : 0 ≤ q3 ∧ q3 < 1024)
    (hX : X = bits .or .u32 K (rd * 128 + q0 * 2147483648 + q1 * 4096 + q2 * 1048576 + q3 * 2097152)) : 0 ≤ X ∧ X < 4294967296 ∧ X % 128 = K ∧ X / 128 % 32 = rd ∧ X / 2147483648 % 2 = q0 ∧ X / 4096 % 256 = q1 ∧ X / 1048576 % 2 = q2 ∧ X / 2097152 % 1024 = q3 := by
  rw [or_lo K _ k.1 k.2 (by omega) (by omega) (digl (rd + q0 * 16777216 + q1 * 32 + q2 * 8192 + q3 * 16384) 0 (by omega) (by omega) (by omega))] at hX
  refine ⟨by omega, by omega, ?_, ?_, ?_, ?_, ?_, ?_⟩
  · exact digl (rd + q0 * 16777216 + q1 * 32 + q2 * 8192 + q3 * 16384) K (by omega) k.1 k.2
  · exact dig (q0 * 524288 + q1 + q2 * 256 + q3 * 512) rd K (by omega) (by omega) (by omega) (by omega) (by omega)
  · exact dig 0 q0 (K + rd * 128 + q1 * 4096 + q2 * 1048576 + q3 * 2097152) (by omega) (by omega) (by omega) (by omega) (by omega)
  · exact dig (q0 * 2048 + q2 + q3 * 2) q1 (K + rd * 128) (by omega) (by omega) (by omega) (by omega) (by omega)
  · exact dig (q0 * 1024 + q3) q2 (K + rd * 128 + q1 * 4096) (by omega) (by omega) (by omega) (by omega) (by omega)
  · exact dig q0 q3 (K + rd * 128 + q1 * 4096 + q2 * 1048576) (by omega) (by omega) (by omega) (by omega) (by omega)

theorem at_B (lo mi r s q0 q1 q2 q3 X : Int) (k : 0 ≤ lo ∧ lo < 128) (m : 0 ≤ mi ∧ mi < 8) (hr : 0 ≤ r ∧ r < 32) (hs : 0 ≤ s ∧ s < 32) (b0 : 0 ≤ q0 ∧ q0 < 2) (b1 : 0 ≤ q1 ∧ q1 < 2) (b2 : 0 ≤ q2 ∧ q2 < 64) (b3 : 0 ≤ q3 ∧ q3 < 16)
    (hX : X = bits .or .u32 (lo + mi * 4096) (r * 32768 + s * 1048576 + q0 * 2147483648 + q1 * 128 + q2 * 33554432 + q3 * 256)) : 0 ≤ X ∧ X < 4294967296 ∧ X % 128 = lo ∧ X / 4096 % 8 = mi ∧ X / 32768 % 32 = r ∧ X / 1048576 % 32 = s ∧ X / 2147483648 % 2 = q0 ∧ X / 128 % 2 = q1 ∧ X / 33554432 % 64 = q2 ∧ X / 256 % 16 = q3 := by
  rw [or_lm lo mi _ k.1 k.2 m.1 m.2 (by omega) (by omega) (digl (r * 256 + s * 8192 + q0 * 16777216 + q1 + q2 * 262144 + q3 * 2) 0 (by omega) (by omega) (by omega)) (dig (r + s * 32 + q0 * 65536 + q2 * 1024) 0 (q1 * 128 + q3 * 256) (by omega) (by omega) (by omega) (by omega) (by omega))] at hX
  refine ⟨by omega, by omega, ?_, ?_, ?_, ?_, ?_, ?_, ?_, ?_⟩
  · exact digl (r * 256 + s * 8192 + q0 * 16777216 + q1 + q2 * 262144 + q3 * 2 + mi * 32) lo (by omega) k.1 k.2
  · exact dig (r + s * 32 + q0 * 65536 + q2 * 1024) mi (lo + q1 * 128 + q3 * 256) (by omega) (by omega) (by omega) (by omega) (by omega)
  · exact dig (s + q0 * 2048 + q2 * 32) r (lo + q1 * 128 + q3 * 256 + mi * 4096) (by omega) (by omega) (by omega) (by omega) (by omega)
  · exact dig (q0 * 64 + q2) s (lo + q1 * 128 + q3 * 256 + mi * 4096 + r * 32768) (by omega) (by omega) (by omega) (by omega) (by omega)
  · exact dig 0 q0 (lo + q1 * 128 + q3 * 256 + mi * 4096 + r * 32768 + s * 1048576 + q2 * 33554432) (by omega) (by omega) (by omega) (by omega) (by omega)
  · exact dig (q3 + mi * 16 + r * 128 + s * 4096 + q2 * 131072 + q0 * 8388608) q1 lo (by omega) (by omega) (by omega) (by omega) (by omega)
  · exact dig q0 q2 (lo + q1 * 128 + q3 * 256 + mi * 4096 + r * 32768 + s * 1048576) (by omega) (by omega) (by omega) (by omega) (by omega)
  · exact dig (mi + r * 8 + s * 256 + q2 * 8192 + q0 * 524288) q3 (lo + q1 * 128) (by omega) (by omega) (by omega) (by omega) (by omega)

theorem at_S (lo mi r s p q X : Int) (k : 0 ≤ lo ∧ lo < 128) (m : 0 ≤ mi ∧ mi < 8) (hr : 0 ≤ r ∧ r < 32) (hs : 0 ≤ s ∧ s < 32) (b0 : 0 ≤ p ∧ p < 128) (b1 : 0 ≤ q ∧ q < 32)
    (hX : X = bits .or .u32 (lo + mi * 4096) (r * 32768 + s * 1048576 + p * 33554432 + q * 128)) : 0 ≤ X ∧ X < 4294967296 ∧ X % 128 = lo ∧ X / 4096 % 8 = mi ∧ X / 32768 % 32 = r ∧ X / 1048576 % 32 = s ∧ X / 33554432 = p ∧ X / 128 % 32 = q := by
  rw [or_lm lo mi _ k.1 k.2 m.1 m.2 (by omega) (by omega) (digl (r * 256 + s * 8192 + p * 262144 + q) 0 (by omega) (by omega) (by omega)) (dig (r + s * 32 + p * 1024) 0 (q * 128) (by omega) (by omega) (by omega) (by omega) (by omega))] at hX
  refine ⟨by omega, by omega, ?_, ?_, ?_, ?_, ?_, ?_⟩
  · exact digl (r * 256 + s * 8192 + p * 262144 + q + mi * 32) lo (by omega) k.1 k.2
  · exact dig (r + s * 32 + p * 1024) mi (lo + q * 128) (by omega) (by omega) (by omega) (by omega) (by omega)
  · exact dig (s + p * 32) r (lo + q * 128 + mi * 4096) (by omega) (by omega) (by omega) (by omega) (by omega)
  · exact dig p s (lo + q * 128 + mi * 4096 + r * 32768) (by omega) (by omega) (by omega) (by omega) (by omega)
  · exact digs p (lo + q * 128 + mi * 4096 + r * 32768 + s * 1048576) (by omega) (by omega) (by omega)
  · exact dig (mi + r * 8 + s * 256 + p * 8192) q lo (by omega) (by omega) (by omega) (by omega) (by omega)

theorem mk_U (K rd rs1 rs2 imm X : Int) (k0 : 0 ≤ K) (k1 : K < 128) (d0 : 0 ≤ rd) (d1 : rd ≤ 31) (i0 : -2147483648 ≤ imm) (i1 : imm ≤ 2147483647) (hi : imm % 4096 = 0)
    (hX : X = bits .or .u32 K (wb (fm 1) rd rs1 rs2 imm 4)) : 0 ≤ X ∧ X < 4294967296 ∧ X % 128 = K ∧ X / 128 % 32 = rd ∧ sx (X / 4096 * 4096) 2147483648 4294967296 = imm := by
  rw [wb_U, show rd % 32 = rd by omega] at hX
  obtain ⟨p, hp⟩ : ∃ p, p = imm % 4294967296 / 4096 % 1048576 := ⟨_, rfl⟩
  rw [← hp] at hX
  have p0 : 0 ≤ p ∧ p < 1048576 ∧ imm % 4294967296 = p * 4096 := by omega
  rw [or_lo K _ k0 k1 (by omega) (by omega) (by omega)] at hX
  clear hp
  have e : X / 4096 * 4096 = p * 4096 := by omega
  rw [e]
  refine ⟨by omega, by omega, by omega, by omega, ?_⟩
  unfold sx
  split <;> omega

theorem mk_J (K rd rs1 rs2 imm X : Int) (k0 : 0 ≤ K) (k1 : K < 128) (d0 : 0 ≤ rd) (d1 : rd ≤ 31) (i0 : -1048576 ≤ imm) (i1 : imm ≤ 1048574) (hi : imm % 2 = 0)
    (hX : X = bits .or .u32 K (wb (fm 2) rd rs1 rs2 imm 4)) : 0 ≤ X ∧ X < 4294967296 ∧ X % 128 = K ∧ X / 128 % 32 = rd ∧ sx (X / 2147483648 % 2 * 1048576 + X / 4096 % 256 * 4096 + X / 1048576 % 2 * 2048 + X / 2097152 % 1024 * 2) 1048576 2097152 = imm := by
  rw [wb_J, show rd % 32 = rd by omega] at hX
  obtain ⟨u, hu⟩ : ∃ u, u = imm % 4294967296 := ⟨_, rfl⟩
  rw [← hu] at hX
  obtain ⟨q0, h0⟩ : ∃ q, q = u / 1048576 % 2 := ⟨_, rfl⟩
  obtain ⟨q1, h1⟩ : ∃ q, q = u / 4096 % 256 := ⟨_, rfl⟩
  obtain ⟨q2, h2⟩ : ∃ q, q = u / 2048 % 2 := ⟨_, rfl⟩
  obtain ⟨q3, h3⟩ : ∃ q, q = u / 2 % 1024 := ⟨_, rfl⟩
  rw [← h0, ← h1, ← h2, ← h3] at hX
  have hv : q0 * 1048576 + q1 * 4096 + q2 * 2048 + q3 * 2 = u % 2097152 := by omega
  have b : (0 ≤ q0 ∧ q0 < 2) ∧ (0 ≤ q1 ∧ q1 < 256) ∧ (0 ≤ q2 ∧ q2 < 2) ∧ (0 ≤ q3 ∧ q3 < 1024) := by omega
  obtain ⟨g0, g1, g2, g3, e0, e1, e2, e3⟩ := at_J K rd q0 q1 q2 q3 X ⟨k0, k1⟩ ⟨d0, by omega⟩ b.1 b.2.1 b.2.2.1 b.2.2.2 hX
  refine ⟨g0, g1, g2, g3, ?_⟩
  rw [e0, e1, e2, e3, hv]
  clear e0 e1 e2 e3 hX hv b h0 h1 h2 h3 g0 g1 g2 g3
  unfold sx
  split <;> omega

theorem mk_I (lo mi rd rs1 rs2 imm X : Int) (k0 : 0 ≤ lo) (k1 : lo < 128) (m0 : 0 ≤ mi) (m1 : mi < 8) (d0 : 0 ≤ rd) (d1 : rd ≤ 31) (s0 : 0 ≤ rs1) (s1 : rs1 ≤ 31) (i0 : -2048 ≤ imm) (i1 : imm ≤ 2047)
    (hX : X = bits .or .u32 (lo + mi * 4096) (wb (fm 3) rd rs1 rs2 imm 4)) : 0 ≤ X ∧ X < 4294967296 ∧ X % 128 = lo ∧ X / 4096 % 8 = mi ∧ X / 128 % 32 = rd ∧ X / 32768 % 32 = rs1 ∧ sx (X / 1048576) 2048 4096 = imm := by
  rw [wb_I, show rd % 32 = rd by omega, show rs1 % 32 = rs1 by omega] at hX
  obtain ⟨p, hp⟩ : ∃ p, p = imm % 4294967296 / 1 % 4096 := ⟨_, rfl⟩
  rw [← hp] at hX
  have p0 : 0 ≤ p ∧ p < 4096 ∧ imm % 4096 = p := by omega
  clear hp
  rw [or_lm lo mi _ k0 k1 m0 m1 (by omega) (by omega) (by omega) (by omega)] at hX
  have e : X / 1048576 = p := by omega
  refine ⟨by omega, by omega, by omega, by omega, by omega, by omega, ?_⟩
  rw [e]
  clear hX e
  unfold sx
  split <;> omega

theorem mk_H (lo mi up rd rs1 rs2 imm X : Int) (k0 : 0 ≤ lo) (k1 : lo < 128) (m0 : 0 ≤ mi) (m1 : mi < 8) (u0 : 0 ≤ up) (u1 : up < 128) (d0 : 0 ≤ rd) (d1 : rd ≤ 31) (s0 : 0 ≤ rs1) (s1 : rs1 ≤ 31) (i0 : 0 ≤ imm) (i1 : imm ≤ 31)
    (hX : X = bits .or .u32 (lo + mi * 4096 + up * 33554432) (wb (fm 4) rd rs1 rs2 imm 4)) : 0 ≤ X ∧ X < 4294967296 ∧ X % 128 = lo ∧ X / 4096 % 8 = mi ∧ X / 33554432 = up ∧ X / 128 % 32 = rd ∧ X / 32768 % 32 = rs1 ∧ X / 1048576 % 32 = imm := by
  rw [wb_H, show rd % 32 = rd by omega, show rs1 % 32 = rs1 by omega, show imm % 4294967296 / 1 % 32 = imm by omega] at hX
  rw [or_told lo mi up _ k0 k1 m0 m1 u0 u1 (by omega) (by omega) (by omega) (.inr (by omega)) (.inr (by omega))] at hX
  refine ⟨by omega, by omega, by omega, by omega, by omega, by omega, by omega, by omega⟩

theorem mk_B (lo mi rd rs1 rs2 imm X : Int) (k0 : 0 ≤ lo) (k1 : lo < 128) (m0 : 0 ≤ mi) (m1 : mi < 8) (d0 : 0 ≤ rs1) (d1 : rs1 ≤ 31) (s0 : 0 ≤ rs2) (s1 : rs2 ≤ 31) (i0 : -4096 ≤ imm) (i1 : imm ≤ 4094) (hi : imm % 2 = 0)
    (hX : X = bits .or .u32 (lo + mi * 4096) (wb (fm 5) rd rs1 rs2 imm 4)) : 0 ≤ X ∧ X < 4294967296 ∧ X % 128 = lo ∧ X / 4096 % 8 = mi ∧ X / 32768 % 32 = rs1 ∧ X / 1048576 % 32 = rs2 ∧ sx (X / 2147483648 % 2 * 4096 + X / 128 % 2 * 2048 + X / 33554432 % 64 * 32 + X / 256 % 16 * 2) 4096 8192 = imm := by
  rw [wb_B, show rs1 % 32 = rs1 by omega, show rs2 % 32 = rs2 by omega] at hX
  obtain ⟨u, hu⟩ : ∃ u, u = imm % 4294967296 := ⟨_, rfl⟩
  rw [← hu] at hX
  obtain ⟨q0, h0⟩ : ∃ q, q = u / 4096 % 2 := ⟨_, rfl⟩
  obtain ⟨q1, h1⟩ : ∃ q, q = u / 2048 % 2 := ⟨_, rfl⟩
  obtain ⟨q2, h2⟩ : ∃ q, q = u / 32 % 64 := ⟨_, rfl⟩
  obtain ⟨q3, h3⟩ : ∃ q, q = u / 2 % 16 := ⟨_, rfl⟩
  rw [← h0, ← h1, ← h2, ← h3] at hX
  have hv : q0 * 4096 + q1 * 2048 + q2 * 32 + q3 * 2 = u % 8192 := by omega
  have b : (0 ≤ q0 ∧ q0 < 2) ∧ (0 ≤ q1 ∧ q1 < 2) ∧ (0 ≤ q2 ∧ q2 < 64) ∧ (0 ≤ q3 ∧ q3 < 16) := by omega
  obtain ⟨g0, g1, g2, g3, g4, g5, e0, e1, e2, e3⟩ := at_B lo mi rs1 rs2 q0 q1 q2 q3 X ⟨k0, k1⟩ ⟨m0, m1⟩ ⟨d0, by omega⟩ ⟨s0, by omega⟩ b.1 b.2.1 b.2.2.1 b.2.2.2 hX
  refine ⟨g0, g1, g2, g3, g4, g5, ?_⟩
  rw [e0, e1, e2, e3, hv]
  clear e0 e1 e2 e3 hX hv b h0 h1 h2 h3 g0 g1 g2 g3 g4 g5
  unfold sx
  split <;> omega

theorem mk_S (lo mi rd rs1 rs2 imm X : Int) (k0 : 0 ≤ lo) (k1 : lo < 128) (m0 : 0 ≤ mi) (m1 : mi < 8) (d0 : 0 ≤ rs1) (d1 : rs1 ≤ 31) (s0 : 0 ≤ rs2) (s1 : rs2 ≤ 31) (i0 : -2048 ≤ imm) (i1 : imm ≤ 2047)
    (hX : X = bits .or .u32 (lo + mi * 4096) (wb (fm 6) rd rs1 rs2 imm 4)) : 0 ≤ X ∧ X < 4294967296 ∧ X % 128 = lo ∧ X / 4096 % 8 = mi ∧ X / 32768 % 32 = rs1 ∧ X / 1048576 % 32 = rs2 ∧ sx (X / 33554432 * 32 + X / 128 % 32) 2048 4096 = imm := by
  rw [wb_S, show rs1 % 32 = rs1 by omega, show rs2 % 32 = rs2 by omega] at hX
  obtain ⟨u, hu⟩ : ∃ u, u = imm % 4294967296 := ⟨_, rfl⟩
  rw [← hu] at hX
  obtain ⟨q0, h0⟩ : ∃ q, q = u / 32 % 128 := ⟨_, rfl⟩
  obtain ⟨q1, h1⟩ : ∃ q, q = u / 1 % 32 := ⟨_, rfl⟩
  rw [← h0, ← h1] at hX
  have hv : q0 * 32 + q1 = u % 4096 := by omega
  have b : (0 ≤ q0 ∧ q0 < 128) ∧ (0 ≤ q1 ∧ q1 < 32) := by omega
  obtain ⟨g0, g1, g2, g3, g4, g5, e0, e1⟩ := at_S lo mi rs1 rs2 q0 q1 X ⟨k0, k1⟩ ⟨m0, m1⟩ ⟨d0, by omega⟩ ⟨s0, by omega⟩ b.1 b.2 hX
  refine ⟨g0, g1, g2, g3, g4, g5, ?_⟩
  rw [e0, e1, hv]
  clear e0 e1 hX hv b h0 h1 g0 g1 g2 g3 g4 g5
  unfold sx
  split <;> omega

theorem mk_R (lo mi up rd rs1 rs2 imm X : Int) (k0 : 0 ≤ lo) (k1 : lo < 128) (m0 : 0 ≤ mi) (m1 : mi < 8) (u0 : 0 ≤ up) (u1 : up < 128) (d0 : 0 ≤ rd) (d1 : rd ≤ 31) (s0 : 0 ≤ rs1) (s1 : rs1 ≤ 31) (t0 : 0 ≤ rs2) (t1 : rs2 ≤ 31)
    (hX : X = bits .or .u32 (lo + mi * 4096 + up * 33554432) (wb (fm 7) rd rs1 rs2 imm 4)) : 0 ≤ X ∧ X < 4294967296 ∧ X % 128 = lo ∧ X / 4096 % 8 = mi ∧ X / 33554432 = up ∧ X / 128 % 32 = rd ∧ X / 32768 % 32 = rs1 ∧ X / 1048576 % 32 = rs2 := by
  rw [wb_R, show rd % 32 = rd by omega, show rs1 % 32 = rs1 by omega, show rs2 % 32 = rs2 by omega] at hX
  rw [or_told lo mi up _ k0 k1 m0 m1 u0 u1 (by omega) (by omega) (by omega) (.inr (by omega)) (.inr (by omega))] at hX
  refine ⟨by omega, by omega, by omega, by omega, by omega, by omega, by omega, by omega⟩
end Go.Proofs.YtkpkiojigbkghaaDoor.Hy
