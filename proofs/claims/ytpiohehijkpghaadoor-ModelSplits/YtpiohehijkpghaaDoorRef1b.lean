/- What chapter 1's Alu and Holds, as they are said by whole numbers, come to. -/
import Derived.Test.YtpiohehijkpghaaDoorRef1
import Derived.Deep.QuietTactic
import Derived.BigQuiet
namespace Go.Proofs.YtpiohehijkpghaaDoor
open Go.RowKit
open Hy
set_option linter.unusedVariables false

theorem rPower_int (m : Int) (m0 : 0 ≤ m) (m1 : m ≤ 32) (w : World) :
    Calls Tryd.prog 43 #[.int .i64 m] w fun e w' => e = .returned (.int .i64 (two m.toNat)) ∧ w' = w :=
  pow_word w m.toNat m (by omega) (by omega)

theorem rtruth_yes (w : World) : Calls Tryd.prog 59 #[.bool true] w fun e w' => e = .returned (.int .u32 1) ∧ w' = w := rtruth_any true w
theorem rtruth_no (w : World) : Calls Tryd.prog 59 #[.bool false] w fun e w' => e = .returned (.int .u32 0) ∧ w' = w := rtruth_any false w

theorem shl_word (a b : Int) (a0 : 0 ≤ a) (b0 : 0 ≤ b) : a % two (32 - b % 32).toNat * two (b % 32).toNat = alu 30 a b := by
  have e : (32 - b % 32).toNat = 32 - (b % 32).toNat := by omega
  rw [e, shl_eq a _ (by omega)]; rfl

theorem ralu30 (a b : Int) (a0 : 0 ≤ a) (a1 : a ≤ 4294967295) (b0 : 0 ≤ b) (b1 : b ≤ 4294967295) (w : World) :
    Calls Tryd.prog 44 #[.int .i64 30, .int .u32 a, .int .u32 b] w fun e w' => e = .returned (.int .u32 (alu 30 a b)) ∧ ∃ n, w' = w.drewN n := by
  have ha := sg_range a a0 a1
  have hb := sg_range b b0 b1
  have s0 : 0 ≤ b % 32 := by omega
  have s1 : b % 32 ≤ 31 := by omega
  have t0 := two_pos (b % 32).toNat
  have t1 := two_le (b % 32).toNat (by omega)
  have tz : ¬ two (b % 32).toNat = 0 := by omega
  have u0 := two_pos (32 - b % 32).toNat
  have u1 := two_le (32 - b % 32).toNat (by omega)
  have uz : ¬ two (32 - b % 32).toNat = 0 := by omega
  have HS : Hid (a % two (32 - b % 32).toNat * two (b % 32).toNat = alu 30 a b) := shl_word a b a0 b0
  have hr := alu_range 30 a b a0 a1 b0 b1
  have hm : 0 ≤ a % two (32 - b % 32).toNat * two (b % 32).toNat ∧ a % two (32 - b % 32).toNat * two (b % 32).toNat ≤ 4294967295 := by rw [HS.out]; exact hr
  go_enter Tryd.func44, Tryd.ntmps44
  go_wp2_with (go_at_call 29; refine (rSigned_any _ ?_ ?_ _).mono ?_; (iterate 2 omega); rintro e w' ⟨rfl, rfl⟩)
  go_quiet ((first | (go_at_call 43; refine Calls.quiet_of_same (rPower_int _ ?_ ?_ _); (iterate 2 omega)) | (go_at_call 38; exact Calls.quiet_of_same (rOf_any _ _))))
  go_wp2
  go_ret
  exact ⟨ret_int (by rw [HS.out]; omega), _, rfl⟩

theorem ralu34 (a b : Int) (a0 : 0 ≤ a) (a1 : a ≤ 4294967295) (b0 : 0 ≤ b) (b1 : b ≤ 4294967295) (w : World) :
    Calls Tryd.prog 44 #[.int .i64 34, .int .u32 a, .int .u32 b] w fun e w' => e = .returned (.int .u32 (alu 34 a b)) ∧ w' = w := by
  have ha := sg_range a a0 a1
  have hb := sg_range b b0 b1
  have s0 : 0 ≤ b % 32 := by omega
  have s1 : b % 32 ≤ 31 := by omega
  have t0 := two_pos (b % 32).toNat
  have t1 := two_le (b % 32).toNat (by omega)
  have tz : ¬ two (b % 32).toNat = 0 := by omega
  have hd := wd_div a (two (b % 32).toNat) a0 a1 (by omega)
  go_enter Tryd.func44, Tryd.ntmps44
  go_wp2_with (first | (go_at_call 29; refine (rSigned_any _ ?_ ?_ _).mono ?_; (iterate 2 omega); rintro e w' ⟨rfl, rfl⟩) | (go_at_call 38; refine (rOf_any _ _).mono ?_; rintro e w' ⟨rfl, rfl⟩) | (go_at_call 43; refine (rPower_int _ ?_ ?_ _).mono ?_; (iterate 2 omega); rintro e w' ⟨rfl, rfl⟩))
  go_ret
  exact ⟨ret_int (by show a / two (b % 32).toNat % 4294967296 = a / two (b % 32).toNat; unfold Wd at hd; omega), rfl⟩

theorem ralu35 (a b : Int) (a0 : 0 ≤ a) (a1 : a ≤ 4294967295) (b0 : 0 ≤ b) (b1 : b ≤ 4294967295) (w : World) :
    Calls Tryd.prog 44 #[.int .i64 35, .int .u32 a, .int .u32 b] w fun e w' => e = .returned (.int .u32 (alu 35 a b)) ∧ w' = w := by
  have ha := sg_range a a0 a1
  have hb := sg_range b b0 b1
  have s0 : 0 ≤ b % 32 := by omega
  have s1 : b % 32 ≤ 31 := by omega
  have t0 := two_pos (b % 32).toNat
  have t1 := two_le (b % 32).toNat (by omega)
  have tz : ¬ two (b % 32).toNat = 0 := by omega
  go_enter Tryd.func44, Tryd.ntmps44
  go_wp2_with (first | (go_at_call 29; refine (rSigned_any _ ?_ ?_ _).mono ?_; (iterate 2 omega); rintro e w' ⟨rfl, rfl⟩) | (go_at_call 38; refine (rOf_any _ _).mono ?_; rintro e w' ⟨rfl, rfl⟩) | (go_at_call 43; refine (rPower_int _ ?_ ?_ _).mono ?_; (iterate 2 omega); rintro e w' ⟨rfl, rfl⟩) | (go_at_call 58; refine (rfloor_any _ _ ?_ ?_ ?_ ?_ _).mono ?_; (iterate 4 omega); rintro e w' ⟨rfl, rfl⟩))
  go_ret
  exact ⟨rfl, rfl⟩

theorem ralu38 (a b : Int) (a0 : 0 ≤ a) (a1 : a ≤ 4294967295) (b0 : 0 ≤ b) (b1 : b ≤ 4294967295) (w : World) :
    Calls Tryd.prog 44 #[.int .i64 38, .int .u32 a, .int .u32 b] w fun e w' => e = .returned (.int .u32 (alu 38 a b)) ∧ w' = w := by
  have ha := sg_range a a0 a1
  have hb := sg_range b b0 b1
  have hp := prod_range (sg a) (sg b) 2147483648 2147483648 (by omega) (by omega) (by omega) (by omega)
  go_enter Tryd.func44, Tryd.ntmps44
  go_wp2_with (first | (go_at_call 29; refine (rSigned_any _ ?_ ?_ _).mono ?_; (iterate 2 omega); rintro e w' ⟨rfl, rfl⟩) | (go_at_call 38; refine (rOf_any _ _).mono ?_; rintro e w' ⟨rfl, rfl⟩))
  go_ret
  exact ⟨ret_int (mul_mod a b a0 a1 b0 b1), rfl⟩

theorem ralu39 (a b : Int) (a0 : 0 ≤ a) (a1 : a ≤ 4294967295) (b0 : 0 ≤ b) (b1 : b ≤ 4294967295) (w : World) :
    Calls Tryd.prog 44 #[.int .i64 39, .int .u32 a, .int .u32 b] w fun e w' => e = .returned (.int .u32 (alu 39 a b)) ∧ w' = w := by
  have ha := sg_range a a0 a1
  have hb := sg_range b b0 b1
  have hp := prod_range (sg a) (sg b) 2147483648 2147483648 (by omega) (by omega) (by omega) (by omega)
  go_enter Tryd.func44, Tryd.ntmps44
  go_wp2_with (first | (go_at_call 29; refine (rSigned_any _ ?_ ?_ _).mono ?_; (iterate 2 omega); rintro e w' ⟨rfl, rfl⟩) | (go_at_call 38; refine (rOf_any _ _).mono ?_; rintro e w' ⟨rfl, rfl⟩) | (go_at_call 58; refine (rfloor_any _ _ ?_ ?_ ?_ ?_ _).mono ?_; (iterate 4 omega); rintro e w' ⟨rfl, rfl⟩))
  go_ret
  exact ⟨rfl, rfl⟩

theorem ralu40 (a b : Int) (a0 : 0 ≤ a) (a1 : a ≤ 4294967295) (b0 : 0 ≤ b) (b1 : b ≤ 4294967295) (w : World) :
    Calls Tryd.prog 44 #[.int .i64 40, .int .u32 a, .int .u32 b] w fun e w' => e = .returned (.int .u32 (alu 40 a b)) ∧ w' = w := by
  have ha := sg_range a a0 a1
  have hb := sg_range b b0 b1
  go_enter Tryd.func44, Tryd.ntmps44
  go_wp2_with (first | (go_at_call 29; refine (rSigned_any _ ?_ ?_ _).mono ?_; (iterate 2 omega); rintro e w' ⟨rfl, rfl⟩) | (go_at_call 60; refine (rupper_any _ _ ?_ ?_ ?_ ?_ _).mono ?_; (iterate 4 omega); rintro e w' ⟨rfl, rfl⟩))
  go_ret
  exact ⟨rfl, rfl⟩

theorem ralu41 (a b : Int) (a0 : 0 ≤ a) (a1 : a ≤ 4294967295) (b0 : 0 ≤ b) (b1 : b ≤ 4294967295) (w : World) :
    Calls Tryd.prog 44 #[.int .i64 41, .int .u32 a, .int .u32 b] w fun e w' => e = .returned (.int .u32 (alu 41 a b)) ∧ w' = w := by
  have ha := sg_range a a0 a1
  have hb := sg_range b b0 b1
  go_enter Tryd.func44, Tryd.ntmps44
  go_wp2_with (first | (go_at_call 29; refine (rSigned_any _ ?_ ?_ _).mono ?_; (iterate 2 omega); rintro e w' ⟨rfl, rfl⟩) | (go_at_call 60; refine (rupper_any _ _ ?_ ?_ ?_ ?_ _).mono ?_; (iterate 4 omega); rintro e w' ⟨rfl, rfl⟩))
  go_ret
  exact ⟨rfl, rfl⟩

theorem ralu31 (a b : Int) (a0 : 0 ≤ a) (a1 : a ≤ 4294967295) (b0 : 0 ≤ b) (b1 : b ≤ 4294967295) (w : World) :
    Calls Tryd.prog 44 #[.int .i64 31, .int .u32 a, .int .u32 b] w fun e w' => e = .returned (.int .u32 (alu 31 a b)) ∧ w' = w := by
  have ha := sg_range a a0 a1
  have hb := sg_range b b0 b1
  by_cases h : sg a < sg b
  · go_enter Tryd.func44, Tryd.ntmps44
    go_wp2_with (first | (go_at_call 29; refine (rSigned_any _ ?_ ?_ _).mono ?_; (iterate 2 omega); rintro e w' ⟨rfl, rfl⟩) | (go_at_call 59; refine (rtruth_yes _).mono ?_; rintro e w' ⟨rfl, rfl⟩))
    go_ret
    exact ⟨ret_int (by simp [alu, h]), rfl⟩
  · have hd : decide (sg a < sg b) = false := decide_eq_false h
    go_enter Tryd.func44, Tryd.ntmps44
    go_wp2_with (first | (go_at_call 29; refine (rSigned_any _ ?_ ?_ _).mono ?_; (iterate 2 omega); rintro e w' ⟨rfl, rfl⟩) | (go_at_call 59; refine (rtruth_no _).mono ?_; rintro e w' ⟨rfl, rfl⟩))
    go_ret
    exact ⟨ret_int (by simp [alu, h]), rfl⟩

theorem ralu32 (a b : Int) (a0 : 0 ≤ a) (a1 : a ≤ 4294967295) (b0 : 0 ≤ b) (b1 : b ≤ 4294967295) (w : World) :
    Calls Tryd.prog 44 #[.int .i64 32, .int .u32 a, .int .u32 b] w fun e w' => e = .returned (.int .u32 (alu 32 a b)) ∧ w' = w := by
  have ha := sg_range a a0 a1
  have hb := sg_range b b0 b1
  by_cases h : a < b
  · go_enter Tryd.func44, Tryd.ntmps44
    go_wp2_with (first | (go_at_call 29; refine (rSigned_any _ ?_ ?_ _).mono ?_; (iterate 2 omega); rintro e w' ⟨rfl, rfl⟩) | (go_at_call 59; refine (rtruth_yes _).mono ?_; rintro e w' ⟨rfl, rfl⟩))
    go_ret
    exact ⟨ret_int (by simp [alu, h]), rfl⟩
  · have hd : decide (a < b) = false := decide_eq_false h
    go_enter Tryd.func44, Tryd.ntmps44
    go_wp2_with (first | (go_at_call 29; refine (rSigned_any _ ?_ ?_ _).mono ?_; (iterate 2 omega); rintro e w' ⟨rfl, rfl⟩) | (go_at_call 59; refine (rtruth_no _).mono ?_; rintro e w' ⟨rfl, rfl⟩))
    go_ret
    exact ⟨ret_int (by simp [alu, h]), rfl⟩

theorem ralu42 (a b : Int) (a0 : 0 ≤ a) (a1 : a ≤ 4294967295) (b0 : 0 ≤ b) (b1 : b ≤ 4294967295) (w : World) :
    Calls Tryd.prog 44 #[.int .i64 42, .int .u32 a, .int .u32 b] w fun e w' => e = .returned (.int .u32 (alu 42 a b)) ∧ w' = w := by
  have ha := sg_range a a0 a1
  have hb := sg_range b b0 b1
  by_cases h : b = 0
  · subst h
    go_enter Tryd.func44, Tryd.ntmps44
    go_wp2_with (first | (go_at_call 29; refine (rSigned_any _ ?_ ?_ _).mono ?_; (iterate 2 omega); rintro e w' ⟨rfl, rfl⟩) | (go_at_call 38; refine (rOf_any _ _).mono ?_; rintro e w' ⟨rfl, rfl⟩))
    go_ret
    exact ⟨rfl, rfl⟩
  · have h' : (b == 0) = false := by simpa using h
    have hs : ¬ sg b = 0 := fun g => h ((sg_zero b b0 b1).1 g)
    have hd := tdiv_range (sg a) (sg b) 2147483648 (by omega) (by omega)
    go_enter Tryd.func44, Tryd.ntmps44
    go_wp2_with (first | (go_at_call 29; refine (rSigned_any _ ?_ ?_ _).mono ?_; (iterate 2 omega); rintro e w' ⟨rfl, rfl⟩) | (go_at_call 38; refine (rOf_any _ _).mono ?_; rintro e w' ⟨rfl, rfl⟩))
    go_ret
    exact ⟨ret_int (by simp [alu, h]), rfl⟩

theorem ralu43 (a b : Int) (a0 : 0 ≤ a) (a1 : a ≤ 4294967295) (b0 : 0 ≤ b) (b1 : b ≤ 4294967295) (w : World) :
    Calls Tryd.prog 44 #[.int .i64 43, .int .u32 a, .int .u32 b] w fun e w' => e = .returned (.int .u32 (alu 43 a b)) ∧ w' = w := by
  have ha := sg_range a a0 a1
  have hb := sg_range b b0 b1
  by_cases h : b = 0
  · subst h
    go_enter Tryd.func44, Tryd.ntmps44
    go_wp2_with (first | (go_at_call 29; refine (rSigned_any _ ?_ ?_ _).mono ?_; (iterate 2 omega); rintro e w' ⟨rfl, rfl⟩) | (go_at_call 38; refine (rOf_any _ _).mono ?_; rintro e w' ⟨rfl, rfl⟩))
    go_ret
    exact ⟨rfl, rfl⟩
  · have h' : (b == 0) = false := by simpa using h
    have hd := wd_div a b a0 a1 b0
    go_enter Tryd.func44, Tryd.ntmps44
    go_wp2_with (first | (go_at_call 29; refine (rSigned_any _ ?_ ?_ _).mono ?_; (iterate 2 omega); rintro e w' ⟨rfl, rfl⟩) | (go_at_call 38; refine (rOf_any _ _).mono ?_; rintro e w' ⟨rfl, rfl⟩))
    go_ret
    exact ⟨ret_int (by unfold Wd at hd; simp only [alu]; simp [h]; omega), rfl⟩

theorem ralu44 (a b : Int) (a0 : 0 ≤ a) (a1 : a ≤ 4294967295) (b0 : 0 ≤ b) (b1 : b ≤ 4294967295) (w : World) :
    Calls Tryd.prog 44 #[.int .i64 44, .int .u32 a, .int .u32 b] w fun e w' => e = .returned (.int .u32 (alu 44 a b)) ∧ w' = w := by
  have ha := sg_range a a0 a1
  have hb := sg_range b b0 b1
  by_cases h : b = 0
  · subst h
    go_enter Tryd.func44, Tryd.ntmps44
    go_wp2_with (first | (go_at_call 29; refine (rSigned_any _ ?_ ?_ _).mono ?_; (iterate 2 omega); rintro e w' ⟨rfl, rfl⟩) | (go_at_call 38; refine (rOf_any _ _).mono ?_; rintro e w' ⟨rfl, rfl⟩))
    go_ret
    exact ⟨rfl, rfl⟩
  · have h' : (b == 0) = false := by simpa using h
    have hs : ¬ sg b = 0 := fun g => h ((sg_zero b b0 b1).1 g)
    have hd := tdiv_range (sg a) (sg b) 2147483648 (by omega) (by omega)
    have ht := tmod_range (sg a) (sg b) 2147483648 (by omega) (by omega)
    have hp : -9000000000 ≤ (sg a).tdiv (sg b) * sg b ∧ (sg a).tdiv (sg b) * sg b ≤ 9000000000 := by have := rem_eq (sg a) (sg b); omega
    go_enter Tryd.func44, Tryd.ntmps44
    go_wp2_with (first | (go_at_call 29; refine (rSigned_any _ ?_ ?_ _).mono ?_; (iterate 2 omega); rintro e w' ⟨rfl, rfl⟩) | (go_at_call 38; refine (rOf_any _ _).mono ?_; rintro e w' ⟨rfl, rfl⟩))
    go_ret
    exact ⟨ret_int (by rw [rem_eq]; simp [alu, h]), rfl⟩

theorem ralu45 (a b : Int) (a0 : 0 ≤ a) (a1 : a ≤ 4294967295) (b0 : 0 ≤ b) (b1 : b ≤ 4294967295) (w : World) :
    Calls Tryd.prog 44 #[.int .i64 45, .int .u32 a, .int .u32 b] w fun e w' => e = .returned (.int .u32 (alu 45 a b)) ∧ w' = w := by
  have ha := sg_range a a0 a1
  have hb := sg_range b b0 b1
  by_cases h : b = 0
  · subst h
    go_enter Tryd.func44, Tryd.ntmps44
    go_wp2_with (first | (go_at_call 29; refine (rSigned_any _ ?_ ?_ _).mono ?_; (iterate 2 omega); rintro e w' ⟨rfl, rfl⟩) | (go_at_call 38; refine (rOf_any _ _).mono ?_; rintro e w' ⟨rfl, rfl⟩))
    go_ret
    exact ⟨rfl, rfl⟩
  · have h' : (b == 0) = false := by simpa using h
    have hd := wd_rest a b b1 (by omega)
    go_enter Tryd.func44, Tryd.ntmps44
    go_wp2_with (first | (go_at_call 29; refine (rSigned_any _ ?_ ?_ _).mono ?_; (iterate 2 omega); rintro e w' ⟨rfl, rfl⟩) | (go_at_call 38; refine (rOf_any _ _).mono ?_; rintro e w' ⟨rfl, rfl⟩))
    go_ret
    exact ⟨ret_int (by unfold Wd at hd; simp only [alu]; simp [h]; omega), rfl⟩


theorem ralu_other (op a b : Int) (a0 : 0 ≤ a) (a1 : a ≤ 4294967295) (b0 : 0 ≤ b) (b1 : b ≤ 4294967295) (w : World) (n28 : (op == 28) = false) (n29 : (op == 29) = false) (n30 : (op == 30) = false) (n31 : (op == 31) = false) (n32 : (op == 32) = false) (n33 : (op == 33) = false) (n34 : (op == 34) = false) (n35 : (op == 35) = false) (n36 : (op == 36) = false) (n37 : (op == 37) = false) (n38 : (op == 38) = false) (n39 : (op == 39) = false) (n40 : (op == 40) = false) (n41 : (op == 41) = false) (n42 : (op == 42) = false) (n43 : (op == 43) = false) (n44 : (op == 44) = false) (n45 : (op == 45) = false) :
    Calls Tryd.prog 44 #[.int .i64 op, .int .u32 a, .int .u32 b] w fun e w' => e = .returned (.int .u32 0) ∧ w' = w := by
  go_enter Tryd.func44, Tryd.ntmps44
  go_wp2_with (go_at_call 29; refine (rSigned_any _ ?_ ?_ _).mono ?_; (iterate 2 omega); rintro e w' ⟨rfl, rfl⟩)
  go_ret
  exact ⟨rfl, rfl⟩

theorem still {P : Program} {f : FuncId} {xs : Array Value} {w : World} {v : Value} (h : Calls P f xs w fun e w' => e = .returned v ∧ w' = w) :
    Calls P f xs w fun e w' => e = .returned v ∧ ∃ n, w' = w.drewN n :=
  h.mono fun _ _ ⟨he, hw⟩ => ⟨he, 0, hw⟩

/-- Chapter 1's Alu, as it is said: what it makes of an operation, known or not, and two words. -/
theorem rAlu_any (op : Int) (a b : Int) (a0 : 0 ≤ a) (a1 : a ≤ 4294967295) (b0 : 0 ≤ b) (b1 : b ≤ 4294967295) (w : World) :
    Calls Tryd.prog 44 #[.int .i64 op, .int .u32 a, .int .u32 b] w fun e w' => e = .returned (.int .u32 (alu op a b)) ∧ ∃ n, w' = w.drewN n := by
  by_cases n28 : op = 28
  · subst n28; exact still (ralu28 a b a0 a1 b0 b1 w)
  by_cases n29 : op = 29
  · subst n29; exact still (ralu29 a b a0 a1 b0 b1 w)
  by_cases n30 : op = 30
  · subst n30; exact ralu30 a b a0 a1 b0 b1 w
  by_cases n31 : op = 31
  · subst n31; exact still (ralu31 a b a0 a1 b0 b1 w)
  by_cases n32 : op = 32
  · subst n32; exact still (ralu32 a b a0 a1 b0 b1 w)
  by_cases n33 : op = 33
  · subst n33; exact still (ralu33 a b a0 a1 b0 b1 w)
  by_cases n34 : op = 34
  · subst n34; exact still (ralu34 a b a0 a1 b0 b1 w)
  by_cases n35 : op = 35
  · subst n35; exact still (ralu35 a b a0 a1 b0 b1 w)
  by_cases n36 : op = 36
  · subst n36; exact still (ralu36 a b a0 a1 b0 b1 w)
  by_cases n37 : op = 37
  · subst n37; exact still (ralu37 a b a0 a1 b0 b1 w)
  by_cases n38 : op = 38
  · subst n38; exact still (ralu38 a b a0 a1 b0 b1 w)
  by_cases n39 : op = 39
  · subst n39; exact still (ralu39 a b a0 a1 b0 b1 w)
  by_cases n40 : op = 40
  · subst n40; exact still (ralu40 a b a0 a1 b0 b1 w)
  by_cases n41 : op = 41
  · subst n41; exact still (ralu41 a b a0 a1 b0 b1 w)
  by_cases n42 : op = 42
  · subst n42; exact still (ralu42 a b a0 a1 b0 b1 w)
  by_cases n43 : op = 43
  · subst n43; exact still (ralu43 a b a0 a1 b0 b1 w)
  by_cases n44 : op = 44
  · subst n44; exact still (ralu44 a b a0 a1 b0 b1 w)
  by_cases n45 : op = 45
  · subst n45; exact still (ralu45 a b a0 a1 b0 b1 w)
  rw [alu_none op a b n28 n29 n30 n31 n32 n33 n34 n35 n36 n37 n38 n39 n40 n41 n42 n43 n44 n45]
  exact still (ralu_other op a b a0 a1 b0 b1 w (by simpa using n28) (by simpa using n29) (by simpa using n30) (by simpa using n31) (by simpa using n32) (by simpa using n33) (by simpa using n34) (by simpa using n35) (by simpa using n36) (by simpa using n37) (by simpa using n38) (by simpa using n39) (by simpa using n40) (by simpa using n41) (by simpa using n42) (by simpa using n43) (by simpa using n44) (by simpa using n45))

theorem ge_word (x y : Int) : decide (y ≤ x) = !decide (x < y) := by
  by_cases h : x < y
  · rw [decide_eq_true h, decide_eq_false (by omega)]; rfl
  · rw [decide_eq_false h, decide_eq_true (by omega)]; rfl

theorem rholds5 (a b : Int) (a0 : 0 ≤ a) (a1 : a ≤ 4294967295) (b0 : 0 ≤ b) (b1 : b ≤ 4294967295) (w : World) :
    Calls Tryd.prog 40 #[.int .i64 5, .int .u32 a, .int .u32 b] w fun e w' => e = .returned (.bool (holds 5 a b)) ∧ w' = w := by
  have ha := sg_range a a0 a1
  have hb := sg_range b b0 b1
  go_enter Tryd.func40, Tryd.ntmps40
  go_wp2
  go_ret
  exact ⟨rfl, rfl⟩

theorem rholds6 (a b : Int) (a0 : 0 ≤ a) (a1 : a ≤ 4294967295) (b0 : 0 ≤ b) (b1 : b ≤ 4294967295) (w : World) :
    Calls Tryd.prog 40 #[.int .i64 6, .int .u32 a, .int .u32 b] w fun e w' => e = .returned (.bool (holds 6 a b)) ∧ w' = w := by
  have ha := sg_range a a0 a1
  have hb := sg_range b b0 b1
  go_enter Tryd.func40, Tryd.ntmps40
  go_wp2
  go_ret
  exact ⟨rfl, rfl⟩

theorem rholds7 (a b : Int) (a0 : 0 ≤ a) (a1 : a ≤ 4294967295) (b0 : 0 ≤ b) (b1 : b ≤ 4294967295) (w : World) :
    Calls Tryd.prog 40 #[.int .i64 7, .int .u32 a, .int .u32 b] w fun e w' => e = .returned (.bool (holds 7 a b)) ∧ w' = w := by
  have ha := sg_range a a0 a1
  have hb := sg_range b b0 b1
  go_enter Tryd.func40, Tryd.ntmps40
  go_wp2_with (go_at_call 29; refine (rSigned_any _ ?_ ?_ _).mono ?_; (iterate 2 omega); rintro e w' ⟨rfl, rfl⟩)
  go_ret
  exact ⟨rfl, rfl⟩

theorem rholds8 (a b : Int) (a0 : 0 ≤ a) (a1 : a ≤ 4294967295) (b0 : 0 ≤ b) (b1 : b ≤ 4294967295) (w : World) :
    Calls Tryd.prog 40 #[.int .i64 8, .int .u32 a, .int .u32 b] w fun e w' => e = .returned (.bool (holds 8 a b)) ∧ w' = w := by
  have ha := sg_range a a0 a1
  have hb := sg_range b b0 b1
  go_enter Tryd.func40, Tryd.ntmps40
  go_wp2_with (go_at_call 29; refine (rSigned_any _ ?_ ?_ _).mono ?_; (iterate 2 omega); rintro e w' ⟨rfl, rfl⟩)
  go_ret
  exact ⟨ret_bool (ge_word _ _), rfl⟩

theorem rholds9 (a b : Int) (a0 : 0 ≤ a) (a1 : a ≤ 4294967295) (b0 : 0 ≤ b) (b1 : b ≤ 4294967295) (w : World) :
    Calls Tryd.prog 40 #[.int .i64 9, .int .u32 a, .int .u32 b] w fun e w' => e = .returned (.bool (holds 9 a b)) ∧ w' = w := by
  have ha := sg_range a a0 a1
  have hb := sg_range b b0 b1
  go_enter Tryd.func40, Tryd.ntmps40
  go_wp2
  go_ret
  exact ⟨rfl, rfl⟩

theorem rholds10 (a b : Int) (a0 : 0 ≤ a) (a1 : a ≤ 4294967295) (b0 : 0 ≤ b) (b1 : b ≤ 4294967295) (w : World) :
    Calls Tryd.prog 40 #[.int .i64 10, .int .u32 a, .int .u32 b] w fun e w' => e = .returned (.bool (holds 10 a b)) ∧ w' = w := by
  have ha := sg_range a a0 a1
  have hb := sg_range b b0 b1
  go_enter Tryd.func40, Tryd.ntmps40
  go_wp2
  go_ret
  exact ⟨rfl, rfl⟩

theorem rholds_other (op a b : Int) (w : World) (n5 : (op == 5) = false) (n6 : (op == 6) = false) (n7 : (op == 7) = false) (n8 : (op == 8) = false) (n9 : (op == 9) = false) (n10 : (op == 10) = false) :
    Calls Tryd.prog 40 #[.int .i64 op, .int .u32 a, .int .u32 b] w fun e w' => e = .returned (.bool false) ∧ w' = w := by
  go_enter Tryd.func40, Tryd.ntmps40
  go_wp2
  go_ret
  exact ⟨rfl, rfl⟩

/-- Chapter 1's Holds, as it is said. -/
theorem rHolds_any (op : Int) (a b : Int) (a0 : 0 ≤ a) (a1 : a ≤ 4294967295) (b0 : 0 ≤ b) (b1 : b ≤ 4294967295) (w : World) :
    Calls Tryd.prog 40 #[.int .i64 op, .int .u32 a, .int .u32 b] w fun e w' => e = .returned (.bool (holds op a b)) ∧ w' = w := by
  by_cases n5 : op = 5
  · subst n5; exact rholds5 a b a0 a1 b0 b1 w
  by_cases n6 : op = 6
  · subst n6; exact rholds6 a b a0 a1 b0 b1 w
  by_cases n7 : op = 7
  · subst n7; exact rholds7 a b a0 a1 b0 b1 w
  by_cases n8 : op = 8
  · subst n8; exact rholds8 a b a0 a1 b0 b1 w
  by_cases n9 : op = 9
  · subst n9; exact rholds9 a b a0 a1 b0 b1 w
  by_cases n10 : op = 10
  · subst n10; exact rholds10 a b a0 a1 b0 b1 w
  rw [holds_none op a b n5 n6 n7 n8 n9 n10]
  exact rholds_other op a b w (by simpa using n5) (by simpa using n6) (by simpa using n7) (by simpa using n8) (by simpa using n9) (by simpa using n10)
end Go.Proofs.YtpiohehijkpghaaDoor
