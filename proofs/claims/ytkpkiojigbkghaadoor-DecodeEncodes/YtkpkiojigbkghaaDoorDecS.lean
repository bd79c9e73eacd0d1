/- The fields that a form has room for are those that it reads in words. Nothing of the program is named here. -/
import Derived.Test.YtkpkiojigbkghaaDoorDecQ
namespace Go.Proofs.YtkpkiojigbkghaaDoor.Hy
open Go.RowKit
set_option linter.unusedVariables false

theorem kparts_lo : ∀ n, n < 49 → kn n = 1 ∨ kn n = 2 → 0 ≤ kb n ∧ kb n < 128 := by decide
theorem kparts_lm : ∀ n, n < 49 → kn n = 3 ∨ kn n = 5 ∨ kn n = 6 → kb n = kb n % 128 + kb n / 4096 % 8 * 4096 := by decide
theorem kparts_lmu : ∀ n, n < 49 → kn n = 4 ∨ kn n = 7 → kb n = kb n % 128 + kb n / 4096 % 8 * 4096 + kb n / 33554432 * 33554432 ∧ 0 ≤ kb n / 33554432 ∧ kb n / 33554432 < 128 := by decide
theorem kparts_8 : ∀ n, n < 49 → (kn n = 8 → 47 ≤ n) ∧ (47 ≤ n → kn n = 8) := by decide
theorem kparts (n : Nat) (hn : n < 49) (n1 : 1 ≤ n) : ((kn n = 1 ∨ kn n = 2) → 0 ≤ kb n ∧ kb n < 128) ∧ ((kn n = 3 ∨ kn n = 5 ∨ kn n = 6) → kb n = kb n % 128 + kb n / 4096 % 8 * 4096) ∧ ((kn n = 4 ∨ kn n = 7) → kb n = kb n % 128 + kb n / 4096 % 8 * 4096 + kb n / 33554432 * 33554432 ∧ 0 ≤ kb n / 33554432 ∧ kb n / 33554432 < 128) ∧ (kn n = 8 ↔ 47 ≤ n) :=
  ⟨kparts_lo n hn, kparts_lm n hn, kparts_lmu n hn, (kparts_8 n hn).1, (kparts_8 n hn).2⟩

/-- A word is this instruction, with these fields. -/
def fits (n : Nat) (X rd rs1 rs2 imm : Int) : Prop := hit n X = true ∧ reads (kn n) X rd rs1 rs2 imm

theorem hit_lo (n : Nat) (n1 : 1 ≤ n) (n2 : n ≤ 48) (hk : kn n = 1 ∨ kn n = 2) (X : Int) (x0 : 0 ≤ X) (x1 : X < 4294967296) (h : X % 128 = kb n) : hit n X = true := by
  have h8 := (kparts n (by omega) n1).2.2.2
  rw [hit_tl n n1 (by omega) X x0 x1]
  unfold tl
  rw [if_pos hk]
  exact beq_iff_eq.2 h
theorem hit_lm (n : Nat) (n1 : 1 ≤ n) (n2 : n ≤ 48) (hk : kn n = 3 ∨ kn n = 5 ∨ kn n = 6) (X : Int) (x0 : 0 ≤ X) (x1 : X < 4294967296) (h : X % 128 = kb n % 128) (h' : X / 4096 % 8 = kb n / 4096 % 8) : hit n X = true := by
  have h8 := kparts n (by omega) n1
  rw [hit_tl n n1 (by omega) X x0 x1]
  unfold tl
  rw [if_neg (by omega), if_pos hk]
  have := h8.2.1 hk
  exact beq_iff_eq.2 (by omega)
theorem hit_lmu (n : Nat) (n1 : 1 ≤ n) (n2 : n ≤ 48) (hk : kn n = 4 ∨ kn n = 7) (X : Int) (x0 : 0 ≤ X) (x1 : X < 4294967296) (h : X % 128 = kb n % 128) (h' : X / 4096 % 8 = kb n / 4096 % 8) (h'' : X / 33554432 = kb n / 33554432) : hit n X = true := by
  have h8 := kparts n (by omega) n1
  rw [hit_tl n n1 (by omega) X x0 x1]
  unfold tl
  rw [if_neg (by omega), if_neg (by omega)]
  have := h8.2.2.1 hk
  exact beq_iff_eq.2 (by omega)

theorem fits_U (n : Nat) (n1 : 1 ≤ n) (n2 : n ≤ 48) (hk : kn n = 1) (rd rs1 rs2 imm X : Int) (i0 : -2147483648 ≤ imm) (i1 : imm ≤ 2147483647)
    (hX : X = bits .or .u32 (kb n) (wb (fm (kn n)) rd rs1 rs2 imm 4)) (h : isf (kn n) rd rs1 rs2 imm) : fits n X rd rs1 rs2 imm := by
  have hb := (kparts n (by omega) n1).1 (.inl hk)
  rw [hk] at hX h
  have h' : 0 ≤ rd ∧ rd ≤ 31 ∧ rs1 = 0 ∧ rs2 = 0 ∧ imm % 4096 = 0 := h
  obtain ⟨a0, a1, a2, a3, a4⟩ := mk_U (kb n) rd rs1 rs2 imm X hb.1 hb.2 h'.1 h'.2.1 i0 i1 h'.2.2.2.2 hX
  refine ⟨hit_lo n n1 n2 (.inl hk) X a0 a1 a2, ?_⟩
  rw [hk]
  exact ⟨(show rrg X 128 31 = rd from (rrg_7 X a0 a1).trans a3), (show rrg X 32768 0 = rs1 from (rrg_15z X a0 a1).trans h'.2.2.1.symm), (show rrg X 1048576 0 = rs2 from (rrg_20z X a0 a1).trans h'.2.2.2.1.symm), (rim_U X a0 a1).trans a4⟩

theorem fits_J (n : Nat) (n1 : 1 ≤ n) (n2 : n ≤ 48) (hk : kn n = 2) (rd rs1 rs2 imm X : Int)
    (hX : X = bits .or .u32 (kb n) (wb (fm (kn n)) rd rs1 rs2 imm 4)) (h : isf (kn n) rd rs1 rs2 imm) : fits n X rd rs1 rs2 imm := by
  have hb := (kparts n (by omega) n1).1 (.inr hk)
  rw [hk] at hX h
  have h' : 0 ≤ rd ∧ rd ≤ 31 ∧ rs1 = 0 ∧ rs2 = 0 ∧ -1048576 ≤ imm ∧ imm ≤ 1048574 ∧ imm % 2 = 0 := h
  obtain ⟨a0, a1, a2, a3, a4⟩ := mk_J (kb n) rd rs1 rs2 imm X hb.1 hb.2 h'.1 h'.2.1 h'.2.2.2.2.1 h'.2.2.2.2.2.1 h'.2.2.2.2.2.2 hX
  refine ⟨hit_lo n n1 n2 (.inr hk) X a0 a1 a2, ?_⟩
  rw [hk]
  exact ⟨(show rrg X 128 31 = rd from (rrg_7 X a0 a1).trans a3), (show rrg X 32768 0 = rs1 from (rrg_15z X a0 a1).trans h'.2.2.1.symm), (show rrg X 1048576 0 = rs2 from (rrg_20z X a0 a1).trans h'.2.2.2.1.symm), (rim_J X a0 a1).trans a4⟩

theorem fits_I (n : Nat) (n1 : 1 ≤ n) (n2 : n ≤ 48) (hk : kn n = 3) (rd rs1 rs2 imm X : Int)
    (hX : X = bits .or .u32 (kb n) (wb (fm (kn n)) rd rs1 rs2 imm 4)) (h : isf (kn n) rd rs1 rs2 imm) : fits n X rd rs1 rs2 imm := by
  have hb := (kparts n (by omega) n1).2.1 (by omega)
  rw [hk, hb] at hX
  rw [hk] at h
  have h' : 0 ≤ rd ∧ rd ≤ 31 ∧ 0 ≤ rs1 ∧ rs1 ≤ 31 ∧ rs2 = 0 ∧ -2048 ≤ imm ∧ imm ≤ 2047 := h
  obtain ⟨a0, a1, a2, a3, a4, a5, a6⟩ := mk_I (kb n % 128) (kb n / 4096 % 8) rd rs1 rs2 imm X (by omega) (by omega) (by omega) (by omega) h'.1 h'.2.1 h'.2.2.1 h'.2.2.2.1 h'.2.2.2.2.2.1 h'.2.2.2.2.2.2 hX
  refine ⟨hit_lm n n1 n2 (.inl hk) X a0 a1 a2 a3, ?_⟩
  rw [hk]
  exact ⟨(show rrg X 128 31 = rd from (rrg_7 X a0 a1).trans a4), (show rrg X 32768 31 = rs1 from (rrg_15 X a0 a1).trans a5), (show rrg X 1048576 0 = rs2 from (rrg_20z X a0 a1).trans h'.2.2.2.2.1.symm), (rim_I X a0 a1).trans a6⟩

theorem fits_H (n : Nat) (n1 : 1 ≤ n) (n2 : n ≤ 48) (hk : kn n = 4) (rd rs1 rs2 imm X : Int)
    (hX : X = bits .or .u32 (kb n) (wb (fm (kn n)) rd rs1 rs2 imm 4)) (h : isf (kn n) rd rs1 rs2 imm) : fits n X rd rs1 rs2 imm := by
  obtain ⟨hb, u0, u1⟩ := (kparts n (by omega) n1).2.2.1 (.inl hk)
  have hX' : X = bits .or .u32 (kb n % 128 + kb n / 4096 % 8 * 4096 + kb n / 33554432 * 33554432) (wb (fm 4) rd rs1 rs2 imm 4) := by rw [← hb, hX, hk]
  rw [hk] at h
  have h' : 0 ≤ rd ∧ rd ≤ 31 ∧ 0 ≤ rs1 ∧ rs1 ≤ 31 ∧ rs2 = 0 ∧ 0 ≤ imm ∧ imm ≤ 31 := h
  obtain ⟨a0, a1, a2, a3, a4, a5, a6, a7⟩ := mk_H (kb n % 128) (kb n / 4096 % 8) (kb n / 33554432) rd rs1 rs2 imm X (by omega) (by omega) (by omega) (by omega) u0 u1 h'.1 h'.2.1 h'.2.2.1 h'.2.2.2.1 h'.2.2.2.2.2.1 h'.2.2.2.2.2.2 hX'
  refine ⟨hit_lmu n n1 n2 (.inl hk) X a0 a1 a2 a3 a4, ?_⟩
  rw [hk]
  exact ⟨(show rrg X 128 31 = rd from (rrg_7 X a0 a1).trans a5), (show rrg X 32768 31 = rs1 from (rrg_15 X a0 a1).trans a6), (show rrg X 1048576 0 = rs2 from (rrg_20z X a0 a1).trans h'.2.2.2.2.1.symm), (rim_H X a0 a1).trans a7⟩

theorem fits_B (n : Nat) (n1 : 1 ≤ n) (n2 : n ≤ 48) (hk : kn n = 5) (rd rs1 rs2 imm X : Int)
    (hX : X = bits .or .u32 (kb n) (wb (fm (kn n)) rd rs1 rs2 imm 4)) (h : isf (kn n) rd rs1 rs2 imm) : fits n X rd rs1 rs2 imm := by
  have hb := (kparts n (by omega) n1).2.1 (by omega)
  rw [hk, hb] at hX
  rw [hk] at h
  have h' : rd = 0 ∧ 0 ≤ rs1 ∧ rs1 ≤ 31 ∧ 0 ≤ rs2 ∧ rs2 ≤ 31 ∧ -4096 ≤ imm ∧ imm ≤ 4094 ∧ imm % 2 = 0 := h
  obtain ⟨a0, a1, a2, a3, a4, a5, a6⟩ := mk_B (kb n % 128) (kb n / 4096 % 8) rd rs1 rs2 imm X (by omega) (by omega) (by omega) (by omega) h'.2.1 h'.2.2.1 h'.2.2.2.1 h'.2.2.2.2.1 h'.2.2.2.2.2.1 h'.2.2.2.2.2.2.1 h'.2.2.2.2.2.2.2 hX
  refine ⟨hit_lm n n1 n2 (by omega) X a0 a1 a2 a3, ?_⟩
  rw [hk]
  exact ⟨(show rrg X 128 0 = rd from (rrg_7z X a0 a1).trans h'.1.symm), (show rrg X 32768 31 = rs1 from (rrg_15 X a0 a1).trans a4), (show rrg X 1048576 31 = rs2 from (rrg_20 X a0 a1).trans a5), (rim_B X a0 a1).trans a6⟩

theorem fits_S (n : Nat) (n1 : 1 ≤ n) (n2 : n ≤ 48) (hk : kn n = 6) (rd rs1 rs2 imm X : Int)
    (hX : X = bits .or .u32 (kb n) (wb (fm (kn n)) rd rs1 rs2 imm 4)) (h : isf (kn n) rd rs1 rs2 imm) : fits n X rd rs1 rs2 imm := by
  have hb := (kparts n (by omega) n1).2.1 (by omega)
  rw [hk, hb] at hX
  rw [hk] at h
  have h' : rd = 0 ∧ 0 ≤ rs1 ∧ rs1 ≤ 31 ∧ 0 ≤ rs2 ∧ rs2 ≤ 31 ∧ -2048 ≤ imm ∧ imm ≤ 2047 := h
  obtain ⟨a0, a1, a2, a3, a4, a5, a6⟩ := mk_S (kb n % 128) (kb n / 4096 % 8) rd rs1 rs2 imm X (by omega) (by omega) (by omega) (by omega) h'.2.1 h'.2.2.1 h'.2.2.2.1 h'.2.2.2.2.1 h'.2.2.2.2.2.1 h'.2.2.2.2.2.2 hX
  refine ⟨hit_lm n n1 n2 (by omega) X a0 a1 a2 a3, ?_⟩
  rw [hk]
  exact ⟨(show rrg X 128 0 = rd from (rrg_7z X a0 a1).trans h'.1.symm), (show rrg X 32768 31 = rs1 from (rrg_15 X a0 a1).trans a4), (show rrg X 1048576 31 = rs2 from (rrg_20 X a0 a1).trans a5), (rim_S X a0 a1).trans a6⟩

theorem fits_R (n : Nat) (n1 : 1 ≤ n) (n2 : n ≤ 48) (hk : kn n = 7) (rd rs1 rs2 imm X : Int)
    (hX : X = bits .or .u32 (kb n) (wb (fm (kn n)) rd rs1 rs2 imm 4)) (h : isf (kn n) rd rs1 rs2 imm) : fits n X rd rs1 rs2 imm := by
  obtain ⟨hb, u0, u1⟩ := (kparts n (by omega) n1).2.2.1 (.inr hk)
  have hX' : X = bits .or .u32 (kb n % 128 + kb n / 4096 % 8 * 4096 + kb n / 33554432 * 33554432) (wb (fm 7) rd rs1 rs2 imm 4) := by rw [← hb, hX, hk]
  rw [hk] at h
  have h' : 0 ≤ rd ∧ rd ≤ 31 ∧ 0 ≤ rs1 ∧ rs1 ≤ 31 ∧ 0 ≤ rs2 ∧ rs2 ≤ 31 ∧ imm = 0 := h
  obtain ⟨a0, a1, a2, a3, a4, a5, a6, a7⟩ := mk_R (kb n % 128) (kb n / 4096 % 8) (kb n / 33554432) rd rs1 rs2 imm X (by omega) (by omega) (by omega) (by omega) u0 u1 h'.1 h'.2.1 h'.2.2.1 h'.2.2.2.1 h'.2.2.2.2.1 h'.2.2.2.2.2.1 hX'
  refine ⟨hit_lmu n n1 n2 (.inr hk) X a0 a1 a2 a3 a4, ?_⟩
  rw [hk]
  exact ⟨(show rrg X 128 31 = rd from (rrg_7 X a0 a1).trans a5), (show rrg X 32768 31 = rs1 from (rrg_15 X a0 a1).trans a6), (show rrg X 1048576 31 = rs2 from (rrg_20 X a0 a1).trans a7), (rim_R X a0 a1).trans h'.2.2.2.2.2.2.symm⟩

theorem fits_E (n : Nat) (n1 : 1 ≤ n) (n2 : n ≤ 48) (hk : kn n = 8) (rd rs1 rs2 imm X : Int)
    (hX : X = bits .or .u32 (kb n) (wb (fm (kn n)) rd rs1 rs2 imm 4)) (h : isf (kn n) rd rs1 rs2 imm) : fits n X rd rs1 rs2 imm := by
  have hr := kb_range n (by omega)
  have h47 := (kparts n (by omega) n1).2.2.2.1 hk
  rw [hk, wb_E, or_zero32 _ hr.1 (by omega)] at hX
  rw [hk] at h
  have h' : rd = 0 ∧ rs1 = 0 ∧ rs2 = 0 ∧ imm = 0 := h
  have a0 : 0 ≤ X := by omega
  have a1 : X < 4294967296 := by omega
  refine ⟨?_, ?_⟩
  · rw [hit_E n (by omega) X a0 a1, hX]; exact beq_self_eq_true _
  rw [hk]
  exact ⟨(show rrg X 128 0 = rd from (rrg_7z X a0 a1).trans h'.1.symm), (show rrg X 32768 0 = rs1 from (rrg_15z X a0 a1).trans h'.2.1.symm), (show rrg X 1048576 0 = rs2 from (rrg_20z X a0 a1).trans h'.2.2.1.symm), (rim_E X a0 a1).trans h'.2.2.2.symm⟩

theorem isf_fits (n : Nat) (n1 : 1 ≤ n) (n2 : n ≤ 48) (rd rs1 rs2 imm X : Int) (i0 : -2147483648 ≤ imm) (i1 : imm ≤ 2147483647)
    (hX : X = bits .or .u32 (kb n) (wb (fm (kn n)) rd rs1 rs2 imm 4)) (h : isf (kn n) rd rs1 rs2 imm) : fits n X rd rs1 rs2 imm := by
  obtain ⟨k9, _, k1⟩ := kn_lt n (by omega)
  rcases (by omega : kn n = 1 ∨ kn n = 2 ∨ kn n = 3 ∨ kn n = 4 ∨ kn n = 5 ∨ kn n = 6 ∨ kn n = 7 ∨ kn n = 8) with e | e | e | e | e | e | e | e
  · exact fits_U n n1 n2 e rd rs1 rs2 imm X i0 i1 hX h
  · exact fits_J n n1 n2 e rd rs1 rs2 imm X hX h
  · exact fits_I n n1 n2 e rd rs1 rs2 imm X hX h
  · exact fits_H n n1 n2 e rd rs1 rs2 imm X hX h
  · exact fits_B n n1 n2 e rd rs1 rs2 imm X hX h
  · exact fits_S n n1 n2 e rd rs1 rs2 imm X hX h
  · exact fits_R n n1 n2 e rd rs1 rs2 imm X hX h
  · exact fits_E n n1 n2 e rd rs1 rs2 imm X hX h

theorem sx_rng (v h : Int) (v0 : 0 ≤ v) (v1 : v < 2 * h) : -h ≤ sx v h (2 * h) ∧ sx v h (2 * h) ≤ h - 1 := by
  unfold sx; split <;> omega
theorem sx_even (v h : Int) (hv : v % 2 = 0) : sx v h (2 * h) % 2 = 0 := by
  unfold sx; split <;> omega

theorem reads_isf (f : Nat) (f1 : 1 ≤ f) (f2 : f ≤ 8) (X rd rs1 rs2 imm : Int) (x0 : 0 ≤ X) (x1 : X < 4294967296) (h : reads f X rd rs1 rs2 imm) : isf f rd rs1 rs2 imm := by
  obtain ⟨h1, h2, h3, h4⟩ := h
  rcases (by omega : f = 1 ∨ f = 2 ∨ f = 3 ∨ f = 4 ∨ f = 5 ∨ f = 6 ∨ f = 7 ∨ f = 8) with rfl | rfl | rfl | rfl | rfl | rfl | rfl | rfl
  · have g1 : X / 128 % 32 = rd := (rrg_7 X x0 x1).symm.trans h1
    have g2 : 0 = rs1 := (rrg_15z X x0 x1).symm.trans h2
    have g3 : 0 = rs2 := (rrg_20z X x0 x1).symm.trans h3
    have g4 := (rim_U X x0 x1).symm.trans h4
    clear h1 h2 h3 h4
    show 0 ≤ rd ∧ rd ≤ 31 ∧ rs1 = 0 ∧ rs2 = 0 ∧ imm % 4096 = 0
    refine ⟨by omega, by omega, g2.symm, g3.symm, ?_⟩
    rw [← g4]; clear g4; unfold sx; split <;> omega
  · have g1 : X / 128 % 32 = rd := (rrg_7 X x0 x1).symm.trans h1
    have g2 : 0 = rs1 := (rrg_15z X x0 x1).symm.trans h2
    have g3 : 0 = rs2 := (rrg_20z X x0 x1).symm.trans h3
    have g4 := (rim_J X x0 x1).symm.trans h4
    clear h1 h2 h3 h4
    show 0 ≤ rd ∧ rd ≤ 31 ∧ rs1 = 0 ∧ rs2 = 0 ∧ -1048576 ≤ imm ∧ imm ≤ 1048574 ∧ imm % 2 = 0
    have hv : 0 ≤ X / 2147483648 % 2 * 1048576 + X / 4096 % 256 * 4096 + X / 1048576 % 2 * 2048 + X / 2097152 % 1024 * 2 ∧ X / 2147483648 % 2 * 1048576 + X / 4096 % 256 * 4096 + X / 1048576 % 2 * 2048 + X / 2097152 % 1024 * 2 < 2097152 ∧ (X / 2147483648 % 2 * 1048576 + X / 4096 % 256 * 4096 + X / 1048576 % 2 * 2048 + X / 2097152 % 1024 * 2) % 2 = 0 := by omega
    generalize X / 2147483648 % 2 * 1048576 + X / 4096 % 256 * 4096 + X / 1048576 % 2 * 2048 + X / 2097152 % 1024 * 2 = v at hv g4
    have r := sx_rng v 1048576 hv.1 (by omega)
    have r' := sx_even v 1048576 hv.2.2
    rw [show (2 : Int) * 1048576 = 2097152 from rfl, g4] at r r'
    clear g4 hv
    exact ⟨by omega, by omega, g2.symm, g3.symm, by omega, by omega, r'⟩
  · have g1 : X / 128 % 32 = rd := (rrg_7 X x0 x1).symm.trans h1
    have g2 : X / 32768 % 32 = rs1 := (rrg_15 X x0 x1).symm.trans h2
    have g3 : 0 = rs2 := (rrg_20z X x0 x1).symm.trans h3
    have g4 := (rim_I X x0 x1).symm.trans h4
    clear h1 h2 h3 h4
    show 0 ≤ rd ∧ rd ≤ 31 ∧ 0 ≤ rs1 ∧ rs1 ≤ 31 ∧ rs2 = 0 ∧ -2048 ≤ imm ∧ imm ≤ 2047
    have r := sx_rng (X / 1048576) 2048 (by omega) (by omega)
    rw [show (2 : Int) * 2048 = 4096 from rfl, g4] at r
    clear g4
    exact ⟨by omega, by omega, by omega, by omega, g3.symm, by omega, by omega⟩
  · have g1 : X / 128 % 32 = rd := (rrg_7 X x0 x1).symm.trans h1
    have g2 : X / 32768 % 32 = rs1 := (rrg_15 X x0 x1).symm.trans h2
    have g3 : 0 = rs2 := (rrg_20z X x0 x1).symm.trans h3
    have g4 := (rim_H X x0 x1).symm.trans h4
    clear h1 h2 h3 h4
    show 0 ≤ rd ∧ rd ≤ 31 ∧ 0 ≤ rs1 ∧ rs1 ≤ 31 ∧ rs2 = 0 ∧ 0 ≤ imm ∧ imm ≤ 31
    exact ⟨by omega, by omega, by omega, by omega, g3.symm, by omega, by omega⟩
  · have g1 : 0 = rd := (rrg_7z X x0 x1).symm.trans h1
    have g2 : X / 32768 % 32 = rs1 := (rrg_15 X x0 x1).symm.trans h2
    have g3 : X / 1048576 % 32 = rs2 := (rrg_20 X x0 x1).symm.trans h3
    have g4 := (rim_B X x0 x1).symm.trans h4
    clear h1 h2 h3 h4
    show rd = 0 ∧ 0 ≤ rs1 ∧ rs1 ≤ 31 ∧ 0 ≤ rs2 ∧ rs2 ≤ 31 ∧ -4096 ≤ imm ∧ imm ≤ 4094 ∧ imm % 2 = 0
    have hv : 0 ≤ X / 2147483648 % 2 * 4096 + X / 128 % 2 * 2048 + X / 33554432 % 64 * 32 + X / 256 % 16 * 2 ∧ X / 2147483648 % 2 * 4096 + X / 128 % 2 * 2048 + X / 33554432 % 64 * 32 + X / 256 % 16 * 2 < 8192 ∧ (X / 2147483648 % 2 * 4096 + X / 128 % 2 * 2048 + X / 33554432 % 64 * 32 + X / 256 % 16 * 2) % 2 = 0 := by omega
    generalize X / 2147483648 % 2 * 4096 + X / 128 % 2 * 2048 + X / 33554432 % 64 * 32 + X / 256 % 16 * 2 = v at hv g4
    have r := sx_rng v 4096 hv.1 (by omega)
    have r' := sx_even v 4096 hv.2.2
    rw [show (2 : Int) * 4096 = 8192 from rfl, g4] at r r'
    clear g4 hv
    exact ⟨g1.symm, by omega, by omega, by omega, by omega, by omega, by omega, r'⟩
  · have g1 : 0 = rd := (rrg_7z X x0 x1).symm.trans h1
    have g2 : X / 32768 % 32 = rs1 := (rrg_15 X x0 x1).symm.trans h2
    have g3 : X / 1048576 % 32 = rs2 := (rrg_20 X x0 x1).symm.trans h3
    have g4 := (rim_S X x0 x1).symm.trans h4
    clear h1 h2 h3 h4
    show rd = 0 ∧ 0 ≤ rs1 ∧ rs1 ≤ 31 ∧ 0 ≤ rs2 ∧ rs2 ≤ 31 ∧ -2048 ≤ imm ∧ imm ≤ 2047
    have r := sx_rng (X / 33554432 * 32 + X / 128 % 32) 2048 (by omega) (by omega)
    rw [show (2 : Int) * 2048 = 4096 from rfl, g4] at r
    clear g4
    exact ⟨g1.symm, by omega, by omega, by omega, by omega, by omega, by omega⟩
  · have g1 : X / 128 % 32 = rd := (rrg_7 X x0 x1).symm.trans h1
    have g2 : X / 32768 % 32 = rs1 := (rrg_15 X x0 x1).symm.trans h2
    have g3 : X / 1048576 % 32 = rs2 := (rrg_20 X x0 x1).symm.trans h3
    have g4 := (rim_R X x0 x1).symm.trans h4
    clear h1 h2 h3 h4
    show 0 ≤ rd ∧ rd ≤ 31 ∧ 0 ≤ rs1 ∧ rs1 ≤ 31 ∧ 0 ≤ rs2 ∧ rs2 ≤ 31 ∧ imm = 0
    exact ⟨by omega, by omega, by omega, by omega, by omega, by omega, g4.symm⟩
  · have g1 : 0 = rd := (rrg_7z X x0 x1).symm.trans h1
    have g2 : 0 = rs1 := (rrg_15z X x0 x1).symm.trans h2
    have g3 : 0 = rs2 := (rrg_20z X x0 x1).symm.trans h3
    have g4 := (rim_E X x0 x1).symm.trans h4
    exact ⟨g1.symm, g2.symm, g3.symm, g4.symm⟩
end Go.Proofs.YtkpkiojigbkghaaDoor.Hy
