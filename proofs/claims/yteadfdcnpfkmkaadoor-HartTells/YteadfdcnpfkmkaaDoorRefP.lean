/- What the small functions of the document's reckoning of instructions come to. -/
import Derived.Test.YteadfdcnpfkmkaaDoorDecW
import Derived.Test.YteadfdcnpfkmkaaDoorRef1
namespace Go.Proofs.YteadfdcnpfkmkaaDoor
open Go.RowKit
open Hy
set_option linter.unusedVariables false

/-- A power of two, told as a letter. -/
theorem rPower_v (a P : Int) (n : Nat) (ha : Hid (a = (n : Int))) (hn : n ≤ 32) (hP : Hid (P = two n)) (w : World) :
    Calls Tryd.prog 36 #[.int .i64 a] w fun e w' => e = .returned (.int .i64 P) ∧ w' = w := by
  rw [ha.out, hP.out]
  exact rPower_any n hn w

theorem rCut_top (x a P q : Int) (n : Nat) (x0 : 0 ≤ x) (x1 : x ≤ 4294967295) (ha : Hid (a = (n : Int))) (hn : n ≤ 32) (hP : Hid (P = two n)) (hq : Hid (q = x / P)) (w : World) :
    Calls Tryd.prog 21 #[.int .u32 x, .int .i64 a, .int .i64 31] w fun e w' => e = .returned (.int .i64 q) ∧ w' = w := by
  have p0 : 0 < P := by rw [hP.out]; exact two_pos n
  have p1 : P ≤ 4294967296 := by rw [hP.out]; exact two_le n hn
  go_enter Tryd.func21, Tryd.ntmps21
  go_wp2_with (go_at_call 36; refine (rPower_v _ P n ha hn hP _).mono ?_; rintro e w' ⟨rfl, rfl⟩)
  go_ret
  exact ⟨ret_int hq.out.symm, rfl⟩

theorem rCut_mid (x a b P R q : Int) (n m : Nat) (x0 : 0 ≤ x) (x1 : x ≤ 4294967295) (a0 : 0 ≤ a) (a1 : a ≤ 31) (b0 : 0 ≤ b) (hb : b < 31) (ha : Hid (a = (n : Int))) (hn : n ≤ 32) (hP : Hid (P = two n)) (hm : Hid (b - a + 1 = (m : Int))) (hm2 : m ≤ 32) (hR : Hid (R = two m)) (hq : Hid (q = x / P % R)) (w : World) :
    Calls Tryd.prog 21 #[.int .u32 x, .int .i64 a, .int .i64 b] w fun e w' => e = .returned (.int .i64 q) ∧ w' = w := by
  have p0 : 0 < P := by rw [hP.out]; exact two_pos n
  have p1 : P ≤ 4294967296 := by rw [hP.out]; exact two_le n hn
  have r0 : 0 < R := by rw [hR.out]; exact two_pos m
  have r1 : R ≤ 4294967296 := by rw [hR.out]; exact two_le m hm2
  have hb31 : ¬ b = 31 := by omega
  have d0 : 0 ≤ x / P := Int.ediv_nonneg x0 (by omega)
  go_enter Tryd.func21, Tryd.ntmps21
  go_wp2_with fail
  refine (rPower_v _ P n ha hn hP _).mono ?_
  rintro e w' ⟨rfl, rfl⟩
  go_wp2_with fail
  refine (rPower_v _ R m hm hm2 hR _).mono ?_
  rintro e w' ⟨rfl, rfl⟩
  go_wp2_with fail
  go_ret
  exact ⟨ret_int hq.out.symm, rfl⟩

/-- A number of so many bits with its sign. -/
theorem rsigned_any (v k P q : Int) (n : Nat) (v0 : 0 ≤ v) (v1 : v < P + P) (k0 : 1 ≤ k) (k1 : k ≤ 32) (hn : n ≤ 31) (hk : Hid (k - 1 = (n : Int))) (hP : Hid (P = two n)) (hq : Hid (q = if v < P then v else v - 2 * P)) (w : World) :
    Calls Tryd.prog 23 #[.int .i64 v, .int .i64 k] w fun e w' => e = .returned (.int .i32 q) ∧ w' = w := by
  have p0 : 0 < P := by rw [hP.out]; exact two_pos n
  have p1 : P ≤ 2147483648 := by rw [hP.out]; have := two_mono (show n ≤ 31 from hn); have e : two 31 = 2147483648 := by decide
                                 omega
  by_cases h : P ≤ v
  · go_enter Tryd.func23, Tryd.ntmps23
    go_wp2_with (go_at_call 36; refine (rPower_v _ P n hk (by omega) hP _).mono ?_; rintro e w' ⟨rfl, rfl⟩)
    go_ret
    exact ⟨ret_int (by rw [hq.out, if_neg (by omega)]), rfl⟩
  · go_enter Tryd.func23, Tryd.ntmps23
    go_wp2_with (go_at_call 36; refine (rPower_v _ P n hk (by omega) hP _).mono ?_; rintro e w' ⟨rfl, rfl⟩)
    go_ret
    exact ⟨ret_int (by rw [hq.out, if_pos (by omega)]), rfl⟩
end Go.Proofs.YteadfdcnpfkmkaaDoor
