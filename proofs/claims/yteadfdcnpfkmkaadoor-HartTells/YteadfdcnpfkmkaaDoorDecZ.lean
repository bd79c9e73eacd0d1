/- A word is written again as it was read, form by form. Nothing of the program is named here. -/
import Derived.Test.YteadfdcnpfkmkaaDoorDecY
namespace Go.Proofs.YteadfdcnpfkmkaaDoor.Hy
open Go.RowKit
set_option linter.unusedVariables false

/-- A number of so many bits, with its sign. -/
def sx (v half full : Int) : Int := if v < half then v else v - full

theorem rim_U (x : Int) (x0 : 0 ≤ x) (x1 : x < 4294967296) : rim (fm 1) x = sx (x / 4096 * 4096) 2147483648 4294967296 := by
  have e : rim (fm 1) x = wrap32 (ib (fm 1) x 4 * 1 % 4294967296) / 1 := rfl
  rw [e, ib_U x x0 x1]; unfold sx wrap32; split <;> omega
theorem rim_J (x : Int) (x0 : 0 ≤ x) (x1 : x < 4294967296) : rim (fm 2) x = sx (x / 2147483648 % 2 * 1048576 + x / 4096 % 256 * 4096 + x / 1048576 % 2 * 2048 + x / 2097152 % 1024 * 2) 1048576 2097152 := by
  have e : rim (fm 2) x = wrap32 (ib (fm 2) x 4 * 2048 % 4294967296) / 2048 := rfl
  rw [e, ib_J x x0 x1]
  have h : 0 ≤ x / 2147483648 % 2 * 1048576 + x / 4096 % 256 * 4096 + x / 1048576 % 2 * 2048 + x / 2097152 % 1024 * 2 ∧ x / 2147483648 % 2 * 1048576 + x / 4096 % 256 * 4096 + x / 1048576 % 2 * 2048 + x / 2097152 % 1024 * 2 < 2097152 := by omega
  revert h
  generalize x / 2147483648 % 2 * 1048576 + x / 4096 % 256 * 4096 + x / 1048576 % 2 * 2048 + x / 2097152 % 1024 * 2 = v
  intro h
  unfold sx wrap32; split <;> omega
theorem rim_I (x : Int) (x0 : 0 ≤ x) (x1 : x < 4294967296) : rim (fm 3) x = sx (x / 1048576) 2048 4096 := by
  have e : rim (fm 3) x = wrap32 (ib (fm 3) x 4 * 1048576 % 4294967296) / 1048576 := rfl
  rw [e, ib_I x x0 x1]; unfold sx wrap32; split <;> omega
theorem rim_H (x : Int) (x0 : 0 ≤ x) (x1 : x < 4294967296) : rim (fm 4) x = x / 1048576 % 32 := by
  have e : rim (fm 4) x = wrap32 (ib (fm 4) x 4 * 1 % 4294967296) / 1 := rfl
  rw [e, ib_H x x0 x1]; unfold wrap32; omega
theorem rim_B (x : Int) (x0 : 0 ≤ x) (x1 : x < 4294967296) : rim (fm 5) x = sx (x / 2147483648 % 2 * 4096 + x / 128 % 2 * 2048 + x / 33554432 % 64 * 32 + x / 256 % 16 * 2) 4096 8192 := by
  have e : rim (fm 5) x = wrap32 (ib (fm 5) x 4 * 524288 % 4294967296) / 524288 := rfl
  rw [e, ib_B x x0 x1]
  have h : 0 ≤ x / 2147483648 % 2 * 4096 + x / 128 % 2 * 2048 + x / 33554432 % 64 * 32 + x / 256 % 16 * 2 ∧ x / 2147483648 % 2 * 4096 + x / 128 % 2 * 2048 + x / 33554432 % 64 * 32 + x / 256 % 16 * 2 < 8192 := by omega
  revert h
  generalize x / 2147483648 % 2 * 4096 + x / 128 % 2 * 2048 + x / 33554432 % 64 * 32 + x / 256 % 16 * 2 = v
  intro h
  unfold sx wrap32; split <;> omega
theorem rim_S (x : Int) (x0 : 0 ≤ x) (x1 : x < 4294967296) : rim (fm 6) x = sx (x / 33554432 * 32 + x / 128 % 32) 2048 4096 := by
  have e : rim (fm 6) x = wrap32 (ib (fm 6) x 4 * 1048576 % 4294967296) / 1048576 := rfl
  rw [e, ib_S x x0 x1]
  have h : 0 ≤ x / 33554432 * 32 + x / 128 % 32 ∧ x / 33554432 * 32 + x / 128 % 32 < 4096 := by omega
  have e2 : x / 33554432 % 128 * 32 + x / 128 % 32 * 1 = x / 33554432 * 32 + x / 128 % 32 := by omega
  rw [e2]
  revert h
  generalize x / 33554432 * 32 + x / 128 % 32 = v
  intro h
  unfold sx wrap32; split <;> omega
theorem rim_R (x : Int) (x0 : 0 ≤ x) (x1 : x < 4294967296) : rim (fm 7) x = 0 := by
  have e : rim (fm 7) x = wrap32 (ib (fm 7) x 4 * 1 % 4294967296) / 1 := rfl
  rw [e, ib_R x x0 x1]; unfold wrap32; omega
theorem rim_E (x : Int) (x0 : 0 ≤ x) (x1 : x < 4294967296) : rim (fm 8) x = 0 := by
  have e : rim (fm 8) x = wrap32 (ib (fm 8) x 4 * 1 % 4294967296) / 1 := rfl
  rw [e, ib_E x x0 x1]; unfold wrap32; omega

theorem rrg_7 (x : Int) (x0 : 0 ≤ x) (x1 : x < 4294967296) : rrg x 128 31 = x / 128 % 32 := by
  unfold rrg; rw [and31 _ (by omega) (by omega)]; unfold wrap64; omega
theorem rrg_15 (x : Int) (x0 : 0 ≤ x) (x1 : x < 4294967296) : rrg x 32768 31 = x / 32768 % 32 := by
  unfold rrg; rw [and31 _ (by omega) (by omega)]; unfold wrap64; omega
theorem rrg_20 (x : Int) (x0 : 0 ≤ x) (x1 : x < 4294967296) : rrg x 1048576 31 = x / 1048576 % 32 := by
  unfold rrg; rw [and31 _ (by omega) (by omega)]; unfold wrap64; omega
theorem rrg_7z (x : Int) (x0 : 0 ≤ x) (x1 : x < 4294967296) : rrg x 128 0 = 0 := by
  unfold rrg; rw [and_zero32 _ (by omega) (by omega)]; unfold wrap64; omega
theorem rrg_15z (x : Int) (x0 : 0 ≤ x) (x1 : x < 4294967296) : rrg x 32768 0 = 0 := by
  unfold rrg; rw [and_zero32 _ (by omega) (by omega)]; unfold wrap64; omega
theorem rrg_20z (x : Int) (x0 : 0 ≤ x) (x1 : x < 4294967296) : rrg x 1048576 0 = 0 := by
  unfold rrg; rw [and_zero32 _ (by omega) (by omega)]; unfold wrap64; omega

/-- What the pieces of a number are. -/
theorem parts_J (q0 q1 q2 q3 : Int) (h0 : 0 ≤ q0 ∧ q0 < 2) (h1 : 0 ≤ q1 ∧ q1 < 256) (h2 : 0 ≤ q2 ∧ q2 < 2) (h3 : 0 ≤ q3 ∧ q3 < 1024) :
    let u := sx (q0 * 1048576 + q1 * 4096 + q2 * 2048 + q3 * 2) 1048576 2097152 % 4294967296
    u / 1048576 % 2 = q0 ∧ u / 4096 % 256 = q1 ∧ u / 2048 % 2 = q2 ∧ u / 2 % 1024 = q3 := by
  intro u
  have hu : u = q0 * 4293918720 + q1 * 4096 + q2 * 2048 + q3 * 2 := by
    show sx _ _ _ % _ = _
    unfold sx
    rcases (by omega : q0 = 0 ∨ q0 = 1) with rfl | rfl
    · rw [if_pos (by omega)]; omega
    · rw [if_neg (by omega)]; omega
  clear_value u
  subst hu
  rcases (by omega : q0 = 0 ∨ q0 = 1) with rfl | rfl <;> (refine ⟨?_, ?_, ?_, ?_⟩ <;> omega)

theorem parts_B (q0 q1 q2 q3 : Int) (h0 : 0 ≤ q0 ∧ q0 < 2) (h1 : 0 ≤ q1 ∧ q1 < 2) (h2 : 0 ≤ q2 ∧ q2 < 64) (h3 : 0 ≤ q3 ∧ q3 < 16) :
    let u := sx (q0 * 4096 + q1 * 2048 + q2 * 32 + q3 * 2) 4096 8192 % 4294967296
    u / 4096 % 2 = q0 ∧ u / 2048 % 2 = q1 ∧ u / 32 % 64 = q2 ∧ u / 2 % 16 = q3 := by
  intro u
  have hu : u = q0 * 4294963200 + q1 * 2048 + q2 * 32 + q3 * 2 := by
    show sx _ _ _ % _ = _
    unfold sx
    rcases (by omega : q0 = 0 ∨ q0 = 1) with rfl | rfl
    · rw [if_pos (by omega)]; omega
    · rw [if_neg (by omega)]; omega
  clear_value u
  subst hu
  rcases (by omega : q0 = 0 ∨ q0 = 1) with rfl | rfl <;> (rcases (by omega : q1 = 0 ∨ q1 = 1) with rfl | rfl <;> (refine ⟨?_, ?_, ?_, ?_⟩ <;> omega))

theorem parts_S (u p q : Int) (h : u % 4096 = p * 32 + q) (hp : 0 ≤ p ∧ p < 128) (hq : 0 ≤ q ∧ q < 32) : u / 32 % 128 = p ∧ u / 1 % 32 = q := by
  constructor <;> omega

/-- What a form makes of a word that it has read. -/
def anew (f : Nat) (x : Int) : Int := bits .or .u32 (bits .and .u32 x (fm f 0)) (wb (fm f) (rrg x 128 (fm f 1)) (rrg x 32768 (fm f 2)) (rrg x 1048576 (fm f 3)) (rim (fm f) x) 4)

theorem sx_U (x : Int) (x0 : 0 ≤ x) (x1 : x < 4294967296) : sx (x / 4096 * 4096) 2147483648 4294967296 % 4294967296 = x / 4096 * 4096 := by
  unfold sx; split <;> omega
theorem sx_12 (v : Int) (v0 : 0 ≤ v) (v1 : v < 4096) : sx v 2048 4096 % 4294967296 % 4096 = v := by
  unfold sx; split <;> omega

theorem anew_U (x : Int) (x0 : 0 ≤ x) (x1 : x < 4294967296) : anew 1 x = x := by
  have e : anew 1 x = bits .or .u32 (bits .and .u32 x 127) (wb (fm 1) (rrg x 128 31) (rrg x 32768 0) (rrg x 1048576 0) (rim (fm 1) x) 4) := rfl
  rw [e, and127 x x0 x1, wb_U, rrg_7 x x0 x1, rim_U x x0 x1, sx_U x x0 x1]
  have hb : x / 128 % 32 % 32 * 128 + x / 4096 * 4096 / 4096 % 1048576 * 4096 = x - x % 128 := by omega
  rw [hb]
  have := or_told (x % 128) 0 0 (x - x % 128) (by omega) (by omega) (by omega) (by omega) (by omega) (by omega) (by omega) (by omega) (by omega) (by omega) (by omega)
  rw [show x % 128 + 0 * 4096 + 0 * 33554432 = x % 128 by omega] at this
  rw [this]; omega

theorem anew_J (x : Int) (x0 : 0 ≤ x) (x1 : x < 4294967296) : anew 2 x = x := by
  have e : anew 2 x = bits .or .u32 (bits .and .u32 x 127) (wb (fm 2) (rrg x 128 31) (rrg x 32768 0) (rrg x 1048576 0) (rim (fm 2) x) 4) := rfl
  rw [e, and127 x x0 x1, wb_J, rrg_7 x x0 x1, rim_J x x0 x1]
  obtain ⟨p0, p1, p2, p3⟩ := parts_J (x / 2147483648 % 2) (x / 4096 % 256) (x / 1048576 % 2) (x / 2097152 % 1024) (by omega) (by omega) (by omega) (by omega)
  rw [p0, p1, p2, p3]
  clear p0 p1 p2 p3 e
  have hb : x / 128 % 32 % 32 * 128 + x / 2147483648 % 2 * 2147483648 + x / 4096 % 256 * 4096 + x / 1048576 % 2 * 1048576 + x / 2097152 % 1024 * 2097152 = x - x % 128 := by omega
  rw [hb]
  have := or_told (x % 128) 0 0 (x - x % 128) (by omega) (by omega) (by omega) (by omega) (by omega) (by omega) (by omega) (by omega) (by omega) (by omega) (by omega)
  rw [show x % 128 + 0 * 4096 + 0 * 33554432 = x % 128 by omega] at this
  rw [this]; omega

theorem join_I (x b : Int) (x0 : 0 ≤ x) (x1 : x < 4294967296) (hb : b = x - x % 128 - x / 4096 % 8 * 4096) : bits .or .u32 (x % 128 + x / 4096 % 8 * 4096) b = x := by
  subst hb
  have := or_told (x % 128) (x / 4096 % 8) 0 (x - x % 128 - x / 4096 % 8 * 4096) (by omega) (by omega) (by omega) (by omega) (by omega) (by omega) (by omega) (by omega) (by omega) (by omega) (by omega)
  rw [show x % 128 + x / 4096 % 8 * 4096 + 0 * 33554432 = x % 128 + x / 4096 % 8 * 4096 by omega] at this
  rw [this]; omega
theorem join_H (x b : Int) (x0 : 0 ≤ x) (x1 : x < 4294967296) (hb : b = x - x % 128 - x / 4096 % 8 * 4096 - x / 33554432 * 33554432) : bits .or .u32 (x % 128 + x / 4096 % 8 * 4096 + x / 33554432 * 33554432) b = x := by
  subst hb
  rw [or_told (x % 128) (x / 4096 % 8) (x / 33554432) _ (by omega) (by omega) (by omega) (by omega) (by omega) (by omega) (by omega) (by omega) (by omega) (by omega) (by omega)]
  omega

theorem anew_I (x : Int) (x0 : 0 ≤ x) (x1 : x < 4294967296) : anew 3 x = x := by
  have e : anew 3 x = bits .or .u32 (bits .and .u32 x 28799) (wb (fm 3) (rrg x 128 31) (rrg x 32768 31) (rrg x 1048576 0) (rim (fm 3) x) 4) := rfl
  rw [e, told_I x x0 x1, wb_I, rrg_7 x x0 x1, rrg_15 x x0 x1, rim_I x x0 x1]
  have h := sx_12 (x / 1048576) (by omega) (by omega)
  refine join_I x _ x0 x1 ?_
  rw [show sx (x / 1048576) 2048 4096 % 4294967296 / 1 % 4096 = x / 1048576 by omega]
  omega
theorem anew_H (x : Int) (x0 : 0 ≤ x) (x1 : x < 4294967296) : anew 4 x = x := by
  have e : anew 4 x = bits .or .u32 (bits .and .u32 x 4261441663) (wb (fm 4) (rrg x 128 31) (rrg x 32768 31) (rrg x 1048576 0) (rim (fm 4) x) 4) := rfl
  rw [e, told_H x x0 x1, wb_H, rrg_7 x x0 x1, rrg_15 x x0 x1, rim_H x x0 x1]
  refine join_H x _ x0 x1 ?_
  omega
theorem anew_B (x : Int) (x0 : 0 ≤ x) (x1 : x < 4294967296) : anew 5 x = x := by
  have e : anew 5 x = bits .or .u32 (bits .and .u32 x 28799) (wb (fm 5) (rrg x 128 0) (rrg x 32768 31) (rrg x 1048576 31) (rim (fm 5) x) 4) := rfl
  rw [e, told_I x x0 x1, wb_B, rrg_15 x x0 x1, rrg_20 x x0 x1, rim_B x x0 x1]
  obtain ⟨p0, p1, p2, p3⟩ := parts_B (x / 2147483648 % 2) (x / 128 % 2) (x / 33554432 % 64) (x / 256 % 16) (by omega) (by omega) (by omega) (by omega)
  rw [p0, p1, p2, p3]
  clear p0 p1 p2 p3 e
  refine join_I x _ x0 x1 ?_
  omega
theorem anew_S (x : Int) (x0 : 0 ≤ x) (x1 : x < 4294967296) : anew 6 x = x := by
  have e : anew 6 x = bits .or .u32 (bits .and .u32 x 28799) (wb (fm 6) (rrg x 128 0) (rrg x 32768 31) (rrg x 1048576 31) (rim (fm 6) x) 4) := rfl
  rw [e, told_I x x0 x1, wb_S, rrg_15 x x0 x1, rrg_20 x x0 x1, rim_S x x0 x1]
  have h := sx_12 (x / 33554432 * 32 + x / 128 % 32) (by omega) (by omega)
  refine join_I x _ x0 x1 ?_
  obtain ⟨a1, a2⟩ := parts_S _ _ _ h (by omega) (by omega)
  rw [a1, a2]
  clear a1 a2 h e
  omega
theorem anew_R (x : Int) (x0 : 0 ≤ x) (x1 : x < 4294967296) : anew 7 x = x := by
  have e : anew 7 x = bits .or .u32 (bits .and .u32 x 4261441663) (wb (fm 7) (rrg x 128 31) (rrg x 32768 31) (rrg x 1048576 31) (rim (fm 7) x) 4) := rfl
  rw [e, told_H x x0 x1, wb_R, rrg_7 x x0 x1, rrg_15 x x0 x1, rrg_20 x x0 x1]
  refine join_H x _ x0 x1 ?_
  omega
theorem anew_E (x : Int) (x0 : 0 ≤ x) (x1 : x < 4294967296) : anew 8 x = x := by
  have e : anew 8 x = bits .or .u32 (bits .and .u32 x 4294967295) (wb (fm 8) (rrg x 128 0) (rrg x 32768 0) (rrg x 1048576 0) (rim (fm 8) x) 4) := rfl
  rw [e, andAll x x0 x1, wb_E, or_zero32 x x0 x1]

theorem anew_any (f : Nat) (f1 : 1 ≤ f) (f2 : f < 9) (x : Int) (x0 : 0 ≤ x) (x1 : x < 4294967296) : anew f x = x := by
  rcases (by omega : f = 1 ∨ f = 2 ∨ f = 3 ∨ f = 4 ∨ f = 5 ∨ f = 6 ∨ f = 7 ∨ f = 8) with rfl | rfl | rfl | rfl | rfl | rfl | rfl | rfl
  · exact anew_U x x0 x1
  · exact anew_J x x0 x1
  · exact anew_I x x0 x1
  · exact anew_H x x0 x1
  · exact anew_B x x0 x1
  · exact anew_S x x0 x1
  · exact anew_R x x0 x1
  · exact anew_E x x0 x1
end Go.Proofs.YteadfdcnpfkmkaaDoor.Hy
