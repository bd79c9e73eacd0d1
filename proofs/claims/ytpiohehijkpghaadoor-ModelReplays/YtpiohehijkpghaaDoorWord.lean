/- What the functions of package word come to: each returns the number that the plain functions of the text Math give, and turns nothing of the world. -/
import Derived.Test.YtpiohehijkpghaaDoorRows
import Derived.Test.YtpiohehijkpghaaDoorMath
import Derived.WalkSpells
import Derived.WalkLawsBesides
import Derived.Laws.Bits64
namespace Go.Proofs.YtpiohehijkpghaaDoor
open Go.RowKit
open Hy
set_option linter.unusedVariables false

theorem ret_int {k : IntKind} {a b : Int} (h : a = b) : Ending.returned (.int k a) = .returned (.int k b) := by rw [h]
theorem ret_bool {a b : Bool} (h : a = b) : Ending.returned (.bool a) = .returned (.bool b) := by rw [h]

theorem shift_any (b : Int) (b0 : 0 ≤ b) (b1 : b ≤ 4294967295) (w : World) :
    Calls Tryd.prog 77 #[.int .u32 b] w fun e w' => e = .returned (.int .u32 (b % 32)) ∧ w' = w := by
  go_enter Tryd.func77, Tryd.ntmps77
  go_wp2
  go_ret
  exact ⟨ret_int (low5 b b0 b1), rfl⟩

theorem signed_any (b : Int) (b0 : 0 ≤ b) (b1 : b ≤ 4294967295) (w : World) :
    Calls Tryd.prog 80 #[.int .u32 b] w fun e w' => e = .returned (.int .i64 (sg b)) ∧ w' = w := by
  go_enter Tryd.func80, Tryd.ntmps80
  go_wp2
  go_ret
  exact ⟨ret_int (wrap64_sg b b0 b1), rfl⟩

theorem lessSigned_any (a b : Int) (a0 : 0 ≤ a) (a1 : a ≤ 4294967295) (b0 : 0 ≤ b) (b1 : b ≤ 4294967295) (w : World) :
    Calls Tryd.prog 76 #[.int .u32 a, .int .u32 b] w fun e w' => e = .returned (.bool (decide (sg a < sg b))) ∧ w' = w := by
  go_enter Tryd.func76, Tryd.ntmps76
  go_wp2
  go_ret
  exact ⟨ret_bool (by rw [wrap64_sg a a0 a1, wrap64_sg b b0 b1]), rfl⟩

theorem oneIf_any (y : Bool) (w : World) :
    Calls Tryd.prog 78 #[.bool y] w fun e w' => e = .returned (.int .u32 (if y = true then 1 else 0)) ∧ w' = w := by
  cases y
  all_goals
    go_enter Tryd.func78, Tryd.ntmps78
    go_wp2
    go_ret
    exact ⟨rfl, rfl⟩

theorem upper_any (n : Int) (n0 : 0 ≤ n) (n1 : n < 18446744073709551616) (w : World) :
    Calls Tryd.prog 79 #[.int .u64 n] w fun e w' => e = .returned (.int .u32 (n / 4294967296)) ∧ w' = w := by
  go_enter Tryd.func79, Tryd.ntmps79
  go_wp2
  go_ret
  exact ⟨rfl, rfl⟩

theorem wrap64_in (n : Int) (h0 : -9223372036854775808 ≤ n) (h1 : n ≤ 9223372036854775807) : wrap64 n = n := by
  unfold wrap64; omega

theorem mulh_word (n : Int) : IntKind.u64.wrap (wrap64 n) / 4294967296 % 4294967296 = n / 4294967296 % 4294967296 := by
  rw [IntKind.wrap_u64]; unfold wrap64; omega

theorem mulhu_word (n : Int) : IntKind.u64.wrap n / 4294967296 % 4294967296 = n / 4294967296 % 4294967296 := by
  rw [IntKind.wrap_u64]; omega

theorem quotientSigned_any (a b : Int) (a0 : 0 ≤ a) (a1 : a ≤ 4294967295) (b0 : 0 ≤ b) (b1 : b ≤ 4294967295) (w : World) :
    Calls Tryd.prog 81 #[.int .u32 a, .int .u32 b] w fun e w' => e = .returned (.int .u32 (alu 42 a b)) ∧ w' = w := by
  by_cases hb : b = 0
  · subst hb
    go_enter Tryd.func81, Tryd.ntmps81
    go_wp2
    go_ret
    exact ⟨rfl, rfl⟩
  · have hb' : (b == 0) = false := by simpa using hb
    have hs : ¬ wrap64 (wrap32 b) = 0 := fun h => hb ((sg_zero b b0 b1).1 (wrap64_sg b b0 b1 ▸ h))
    have ha := sg_range a a0 a1
    have hd := tdiv_range (sg a) (sg b) 2147483648 (by omega) (by omega)
    go_enter Tryd.func81, Tryd.ntmps81
    go_wp2
    go_ret
    exact ⟨ret_int (by rw [wrap64_sg a a0 a1, wrap64_sg b b0 b1, wrap64_in _ (by omega) (by omega)]; simp [alu, hb]), rfl⟩

theorem quotient_any (a b : Int) (a0 : 0 ≤ a) (a1 : a ≤ 4294967295) (b0 : 0 ≤ b) (b1 : b ≤ 4294967295) (w : World) :
    Calls Tryd.prog 82 #[.int .u32 a, .int .u32 b] w fun e w' => e = .returned (.int .u32 (alu 43 a b)) ∧ w' = w := by
  by_cases hb : b = 0
  · subst hb
    go_enter Tryd.func82, Tryd.ntmps82
    go_wp2
    go_ret
    exact ⟨rfl, rfl⟩
  · have hb' : (b == 0) = false := by simpa using hb
    go_enter Tryd.func82, Tryd.ntmps82
    go_wp2
    go_ret
    exact ⟨ret_int (by simp [alu, hb]), rfl⟩

theorem restSigned_any (a b : Int) (a0 : 0 ≤ a) (a1 : a ≤ 4294967295) (b0 : 0 ≤ b) (b1 : b ≤ 4294967295) (w : World) :
    Calls Tryd.prog 83 #[.int .u32 a, .int .u32 b] w fun e w' => e = .returned (.int .u32 (alu 44 a b)) ∧ w' = w := by
  by_cases hb : b = 0
  · subst hb
    go_enter Tryd.func83, Tryd.ntmps83
    go_wp2
    go_ret
    exact ⟨rfl, rfl⟩
  · have hb' : (b == 0) = false := by simpa using hb
    have hs : ¬ wrap64 (wrap32 b) = 0 := fun h => hb ((sg_zero b b0 b1).1 (wrap64_sg b b0 b1 ▸ h))
    have ha := sg_range a a0 a1
    have hd := tmod_range (sg a) (sg b) 2147483648 (by omega) (by omega)
    go_enter Tryd.func83, Tryd.ntmps83
    go_wp2
    go_ret
    exact ⟨ret_int (by rw [wrap64_sg a a0 a1, wrap64_sg b b0 b1]; simp [alu, hb]), rfl⟩

theorem rest_any (a b : Int) (a0 : 0 ≤ a) (a1 : a ≤ 4294967295) (b0 : 0 ≤ b) (b1 : b ≤ 4294967295) (w : World) :
    Calls Tryd.prog 84 #[.int .u32 a, .int .u32 b] w fun e w' => e = .returned (.int .u32 (alu 45 a b)) ∧ w' = w := by
  by_cases hb : b = 0
  · subst hb
    go_enter Tryd.func84, Tryd.ntmps84
    go_wp2
    go_ret
    exact ⟨rfl, rfl⟩
  · have hb' : (b == 0) = false := by simpa using hb
    go_enter Tryd.func84, Tryd.ntmps84
    go_wp2
    go_ret
    exact ⟨ret_int (by simp [alu, hb]), rfl⟩
theorem alu28 (a b : Int) (a0 : 0 ≤ a) (a1 : a ≤ 4294967295) (b0 : 0 ≤ b) (b1 : b ≤ 4294967295) (w : World) :
    Calls Tryd.prog 74 #[.int .i64 28, .int .u32 a, .int .u32 b] w fun e w' => e = .returned (.int .u32 (alu 28 a b)) ∧ w' = w := by
  go_enter Tryd.func74, Tryd.ntmps74
  go_wp2
  go_ret
  exact ⟨rfl, rfl⟩
theorem alu29 (a b : Int) (a0 : 0 ≤ a) (a1 : a ≤ 4294967295) (b0 : 0 ≤ b) (b1 : b ≤ 4294967295) (w : World) :
    Calls Tryd.prog 74 #[.int .i64 29, .int .u32 a, .int .u32 b] w fun e w' => e = .returned (.int .u32 (alu 29 a b)) ∧ w' = w := by
  go_enter Tryd.func74, Tryd.ntmps74
  go_wp2
  go_ret
  exact ⟨rfl, rfl⟩
theorem alu38 (a b : Int) (a0 : 0 ≤ a) (a1 : a ≤ 4294967295) (b0 : 0 ≤ b) (b1 : b ≤ 4294967295) (w : World) :
    Calls Tryd.prog 74 #[.int .i64 38, .int .u32 a, .int .u32 b] w fun e w' => e = .returned (.int .u32 (alu 38 a b)) ∧ w' = w := by
  go_enter Tryd.func74, Tryd.ntmps74
  go_wp2
  go_ret
  exact ⟨rfl, rfl⟩
theorem alu33 (a b : Int) (a0 : 0 ≤ a) (a1 : a ≤ 4294967295) (b0 : 0 ≤ b) (b1 : b ≤ 4294967295) (w : World) :
    Calls Tryd.prog 74 #[.int .i64 33, .int .u32 a, .int .u32 b] w fun e w' => e = .returned (.int .u32 (alu 33 a b)) ∧ w' = w := by
  go_enter Tryd.func74, Tryd.ntmps74
  go_wp2
  go_ret
  exact ⟨ret_int (u32_xor a b a0 (by omega) b0 (by omega)), rfl⟩
theorem alu36 (a b : Int) (a0 : 0 ≤ a) (a1 : a ≤ 4294967295) (b0 : 0 ≤ b) (b1 : b ≤ 4294967295) (w : World) :
    Calls Tryd.prog 74 #[.int .i64 36, .int .u32 a, .int .u32 b] w fun e w' => e = .returned (.int .u32 (alu 36 a b)) ∧ w' = w := by
  go_enter Tryd.func74, Tryd.ntmps74
  go_wp2
  go_ret
  exact ⟨ret_int (u32_or a b a0 (by omega) b0 (by omega)), rfl⟩
theorem alu37 (a b : Int) (a0 : 0 ≤ a) (a1 : a ≤ 4294967295) (b0 : 0 ≤ b) (b1 : b ≤ 4294967295) (w : World) :
    Calls Tryd.prog 74 #[.int .i64 37, .int .u32 a, .int .u32 b] w fun e w' => e = .returned (.int .u32 (alu 37 a b)) ∧ w' = w := by
  go_enter Tryd.func74, Tryd.ntmps74
  go_wp2
  go_ret
  exact ⟨ret_int (u32_and a b a0 (by omega) b0 (by omega)), rfl⟩
theorem alu30 (a b : Int) (a0 : 0 ≤ a) (a1 : a ≤ 4294967295) (b0 : 0 ≤ b) (b1 : b ≤ 4294967295) (w : World) :
    Calls Tryd.prog 74 #[.int .i64 30, .int .u32 a, .int .u32 b] w fun e w' => e = .returned (.int .u32 (alu 30 a b)) ∧ w' = w := by
  have s0 : 0 ≤ b % 32 := by omega
  have s1 : b % 32 ≤ 32 := by omega
  go_enter Tryd.func74, Tryd.ntmps74
  go_wp2_with (go_at_call 77; refine (shift_any b b0 b1 _).mono ?_; rintro e w' ⟨rfl, rfl⟩)
  go_ret
  exact ⟨ret_int (by simp [alu, pow_two]), rfl⟩
theorem alu34 (a b : Int) (a0 : 0 ≤ a) (a1 : a ≤ 4294967295) (b0 : 0 ≤ b) (b1 : b ≤ 4294967295) (w : World) :
    Calls Tryd.prog 74 #[.int .i64 34, .int .u32 a, .int .u32 b] w fun e w' => e = .returned (.int .u32 (alu 34 a b)) ∧ w' = w := by
  have s0 : 0 ≤ b % 32 := by omega
  have s1 : b % 32 ≤ 32 := by omega
  go_enter Tryd.func74, Tryd.ntmps74
  go_wp2_with (go_at_call 77; refine (shift_any b b0 b1 _).mono ?_; rintro e w' ⟨rfl, rfl⟩)
  go_ret
  exact ⟨ret_int (by simp [alu, pow_two]), rfl⟩
theorem alu35 (a b : Int) (a0 : 0 ≤ a) (a1 : a ≤ 4294967295) (b0 : 0 ≤ b) (b1 : b ≤ 4294967295) (w : World) :
    Calls Tryd.prog 74 #[.int .i64 35, .int .u32 a, .int .u32 b] w fun e w' => e = .returned (.int .u32 (alu 35 a b)) ∧ w' = w := by
  have s0 : 0 ≤ b % 32 := by omega
  have s1 : b % 32 ≤ 32 := by omega
  go_enter Tryd.func74, Tryd.ntmps74
  go_wp2_with (go_at_call 77; refine (shift_any b b0 b1 _).mono ?_; rintro e w' ⟨rfl, rfl⟩)
  go_ret
  exact ⟨ret_int (by simp [alu, pow_two, wrap_sg a a0 a1]), rfl⟩
theorem alu31 (a b : Int) (a0 : 0 ≤ a) (a1 : a ≤ 4294967295) (b0 : 0 ≤ b) (b1 : b ≤ 4294967295) (w : World) :
    Calls Tryd.prog 74 #[.int .i64 31, .int .u32 a, .int .u32 b] w fun e w' => e = .returned (.int .u32 (alu 31 a b)) ∧ w' = w := by
  by_cases h : wrap64 (wrap32 a) < wrap64 (wrap32 b)
  all_goals
    go_enter Tryd.func74, Tryd.ntmps74
    go_wp2
    go_ret
    exact ⟨ret_int (by rw [wrap64_sg a a0 a1, wrap64_sg b b0 b1] at h; simp [alu, h]), rfl⟩
theorem alu32 (a b : Int) (a0 : 0 ≤ a) (a1 : a ≤ 4294967295) (b0 : 0 ≤ b) (b1 : b ≤ 4294967295) (w : World) :
    Calls Tryd.prog 74 #[.int .i64 32, .int .u32 a, .int .u32 b] w fun e w' => e = .returned (.int .u32 (alu 32 a b)) ∧ w' = w := by
  by_cases h : a < b
  all_goals
    go_enter Tryd.func74, Tryd.ntmps74
    go_wp2
    go_ret
    exact ⟨ret_int (by simp [alu, h]), rfl⟩
theorem alu39 (a b : Int) (a0 : 0 ≤ a) (a1 : a ≤ 4294967295) (b0 : 0 ≤ b) (b1 : b ≤ 4294967295) (w : World) :
    Calls Tryd.prog 74 #[.int .i64 39, .int .u32 a, .int .u32 b] w fun e w' => e = .returned (.int .u32 (alu 39 a b)) ∧ w' = w := by
  have ha := sg_range a a0 a1
  have hb := sg_range b b0 b1
  go_enter Tryd.func74, Tryd.ntmps74
  go_wp2
  go_ret
  exact ⟨ret_int (by rw [mulh_word, wrap64_sg a a0 a1, wrap64_sg b b0 b1]; rfl), rfl⟩
theorem alu40 (a b : Int) (a0 : 0 ≤ a) (a1 : a ≤ 4294967295) (b0 : 0 ≤ b) (b1 : b ≤ 4294967295) (w : World) :
    Calls Tryd.prog 74 #[.int .i64 40, .int .u32 a, .int .u32 b] w fun e w' => e = .returned (.int .u32 (alu 40 a b)) ∧ w' = w := by
  have ha := sg_range a a0 a1
  have hb := sg_range b b0 b1
  go_enter Tryd.func74, Tryd.ntmps74
  go_wp2
  go_ret
  exact ⟨ret_int (by rw [mulh_word, wrap64_sg a a0 a1]; rfl), rfl⟩
theorem alu41 (a b : Int) (a0 : 0 ≤ a) (a1 : a ≤ 4294967295) (b0 : 0 ≤ b) (b1 : b ≤ 4294967295) (w : World) :
    Calls Tryd.prog 74 #[.int .i64 41, .int .u32 a, .int .u32 b] w fun e w' => e = .returned (.int .u32 (alu 41 a b)) ∧ w' = w := by
  have ha := sg_range a a0 a1
  have hb := sg_range b b0 b1
  go_enter Tryd.func74, Tryd.ntmps74
  go_wp2
  go_ret
  exact ⟨ret_int (mulhu_word _), rfl⟩
theorem alu42 (a b : Int) (a0 : 0 ≤ a) (a1 : a ≤ 4294967295) (b0 : 0 ≤ b) (b1 : b ≤ 4294967295) (w : World) :
    Calls Tryd.prog 74 #[.int .i64 42, .int .u32 a, .int .u32 b] w fun e w' => e = .returned (.int .u32 (alu 42 a b)) ∧ w' = w := by
  go_enter Tryd.func74, Tryd.ntmps74
  go_wp2_with (go_at_call 81; refine (quotientSigned_any a b a0 a1 b0 b1 _).mono ?_; rintro e w' ⟨rfl, rfl⟩)
  go_ret
  exact ⟨rfl, rfl⟩
theorem alu43 (a b : Int) (a0 : 0 ≤ a) (a1 : a ≤ 4294967295) (b0 : 0 ≤ b) (b1 : b ≤ 4294967295) (w : World) :
    Calls Tryd.prog 74 #[.int .i64 43, .int .u32 a, .int .u32 b] w fun e w' => e = .returned (.int .u32 (alu 43 a b)) ∧ w' = w := by
  go_enter Tryd.func74, Tryd.ntmps74
  go_wp2_with (go_at_call 82; refine (quotient_any a b a0 a1 b0 b1 _).mono ?_; rintro e w' ⟨rfl, rfl⟩)
  go_ret
  exact ⟨rfl, rfl⟩
theorem alu44 (a b : Int) (a0 : 0 ≤ a) (a1 : a ≤ 4294967295) (b0 : 0 ≤ b) (b1 : b ≤ 4294967295) (w : World) :
    Calls Tryd.prog 74 #[.int .i64 44, .int .u32 a, .int .u32 b] w fun e w' => e = .returned (.int .u32 (alu 44 a b)) ∧ w' = w := by
  go_enter Tryd.func74, Tryd.ntmps74
  go_wp2_with (go_at_call 83; refine (restSigned_any a b a0 a1 b0 b1 _).mono ?_; rintro e w' ⟨rfl, rfl⟩)
  go_ret
  exact ⟨rfl, rfl⟩
theorem alu45 (a b : Int) (a0 : 0 ≤ a) (a1 : a ≤ 4294967295) (b0 : 0 ≤ b) (b1 : b ≤ 4294967295) (w : World) :
    Calls Tryd.prog 74 #[.int .i64 45, .int .u32 a, .int .u32 b] w fun e w' => e = .returned (.int .u32 (alu 45 a b)) ∧ w' = w := by
  go_enter Tryd.func74, Tryd.ntmps74
  go_wp2_with (go_at_call 84; refine (rest_any a b a0 a1 b0 b1 _).mono ?_; rintro e w' ⟨rfl, rfl⟩)
  go_ret
  exact ⟨rfl, rfl⟩

theorem alu_other (op a b : Int) (w : World) (n28 : (op == 28) = false) (n29 : (op == 29) = false) (n30 : (op == 30) = false) (n31 : (op == 31) = false) (n32 : (op == 32) = false) (n33 : (op == 33) = false) (n34 : (op == 34) = false) (n35 : (op == 35) = false) (n36 : (op == 36) = false) (n37 : (op == 37) = false) (n38 : (op == 38) = false) (n39 : (op == 39) = false) (n40 : (op == 40) = false) (n41 : (op == 41) = false) (n42 : (op == 42) = false) (n43 : (op == 43) = false) (n44 : (op == 44) = false) (n45 : (op == 45) = false) :
    Calls Tryd.prog 74 #[.int .i64 op, .int .u32 a, .int .u32 b] w fun e w' => e = .returned (.int .u32 0) ∧ w' = w := by
  go_enter Tryd.func74, Tryd.ntmps74
  go_wp2
  go_ret
  exact ⟨rfl, rfl⟩

theorem alu_none (op a b : Int) (n28 : ¬ op = 28) (n29 : ¬ op = 29) (n30 : ¬ op = 30) (n31 : ¬ op = 31) (n32 : ¬ op = 32) (n33 : ¬ op = 33) (n34 : ¬ op = 34) (n35 : ¬ op = 35) (n36 : ¬ op = 36) (n37 : ¬ op = 37) (n38 : ¬ op = 38) (n39 : ¬ op = 39) (n40 : ¬ op = 40) (n41 : ¬ op = 41) (n42 : ¬ op = 42) (n43 : ¬ op = 43) (n44 : ¬ op = 44) (n45 : ¬ op = 45) : alu op a b = 0 := by
  unfold alu
  simp only [n28, n29, n30, n31, n32, n33, n34, n35, n36, n37, n38, n39, n40, n41, n42, n43, n44, n45, if_false]

/-- Alu: what package word makes of an operation, known or not, and two words. -/
theorem Alu_any (op : Int) (a b : Int) (a0 : 0 ≤ a) (a1 : a ≤ 4294967295) (b0 : 0 ≤ b) (b1 : b ≤ 4294967295) (w : World) :
    Calls Tryd.prog 74 #[.int .i64 op, .int .u32 a, .int .u32 b] w fun e w' => e = .returned (.int .u32 (alu op a b)) ∧ w' = w := by
  by_cases n28 : op = 28
  · subst n28; exact alu28 a b a0 a1 b0 b1 w
  by_cases n29 : op = 29
  · subst n29; exact alu29 a b a0 a1 b0 b1 w
  by_cases n30 : op = 30
  · subst n30; exact alu30 a b a0 a1 b0 b1 w
  by_cases n31 : op = 31
  · subst n31; exact alu31 a b a0 a1 b0 b1 w
  by_cases n32 : op = 32
  · subst n32; exact alu32 a b a0 a1 b0 b1 w
  by_cases n33 : op = 33
  · subst n33; exact alu33 a b a0 a1 b0 b1 w
  by_cases n34 : op = 34
  · subst n34; exact alu34 a b a0 a1 b0 b1 w
  by_cases n35 : op = 35
  · subst n35; exact alu35 a b a0 a1 b0 b1 w
  by_cases n36 : op = 36
  · subst n36; exact alu36 a b a0 a1 b0 b1 w
  by_cases n37 : op = 37
  · subst n37; exact alu37 a b a0 a1 b0 b1 w
  by_cases n38 : op = 38
  · subst n38; exact alu38 a b a0 a1 b0 b1 w
  by_cases n39 : op = 39
  · subst n39; exact alu39 a b a0 a1 b0 b1 w
  by_cases n40 : op = 40
  · subst n40; exact alu40 a b a0 a1 b0 b1 w
  by_cases n41 : op = 41
  · subst n41; exact alu41 a b a0 a1 b0 b1 w
  by_cases n42 : op = 42
  · subst n42; exact alu42 a b a0 a1 b0 b1 w
  by_cases n43 : op = 43
  · subst n43; exact alu43 a b a0 a1 b0 b1 w
  by_cases n44 : op = 44
  · subst n44; exact alu44 a b a0 a1 b0 b1 w
  by_cases n45 : op = 45
  · subst n45; exact alu45 a b a0 a1 b0 b1 w
  rw [alu_none op a b n28 n29 n30 n31 n32 n33 n34 n35 n36 n37 n38 n39 n40 n41 n42 n43 n44 n45]
  exact alu_other op a b w (by simpa using n28) (by simpa using n29) (by simpa using n30) (by simpa using n31) (by simpa using n32) (by simpa using n33) (by simpa using n34) (by simpa using n35) (by simpa using n36) (by simpa using n37) (by simpa using n38) (by simpa using n39) (by simpa using n40) (by simpa using n41) (by simpa using n42) (by simpa using n43) (by simpa using n44) (by simpa using n45)

theorem holds5 (a b : Int) (a0 : 0 ≤ a) (a1 : a ≤ 4294967295) (b0 : 0 ≤ b) (b1 : b ≤ 4294967295) (w : World) :
    Calls Tryd.prog 73 #[.int .i64 5, .int .u32 a, .int .u32 b] w fun e w' => e = .returned (.bool (holds 5 a b)) ∧ w' = w := by
  go_enter Tryd.func73, Tryd.ntmps73
  go_wp2
  go_ret
  exact ⟨rfl, rfl⟩

theorem holds6 (a b : Int) (a0 : 0 ≤ a) (a1 : a ≤ 4294967295) (b0 : 0 ≤ b) (b1 : b ≤ 4294967295) (w : World) :
    Calls Tryd.prog 73 #[.int .i64 6, .int .u32 a, .int .u32 b] w fun e w' => e = .returned (.bool (holds 6 a b)) ∧ w' = w := by
  go_enter Tryd.func73, Tryd.ntmps73
  go_wp2
  go_ret
  exact ⟨rfl, rfl⟩

theorem holds7 (a b : Int) (a0 : 0 ≤ a) (a1 : a ≤ 4294967295) (b0 : 0 ≤ b) (b1 : b ≤ 4294967295) (w : World) :
    Calls Tryd.prog 73 #[.int .i64 7, .int .u32 a, .int .u32 b] w fun e w' => e = .returned (.bool (holds 7 a b)) ∧ w' = w := by
  go_enter Tryd.func73, Tryd.ntmps73
  go_wp2_with (go_at_call 76; refine (lessSigned_any a b a0 a1 b0 b1 _).mono ?_; rintro e w' ⟨rfl, rfl⟩)
  go_ret
  exact ⟨rfl, rfl⟩

theorem holds8 (a b : Int) (a0 : 0 ≤ a) (a1 : a ≤ 4294967295) (b0 : 0 ≤ b) (b1 : b ≤ 4294967295) (w : World) :
    Calls Tryd.prog 73 #[.int .i64 8, .int .u32 a, .int .u32 b] w fun e w' => e = .returned (.bool (holds 8 a b)) ∧ w' = w := by
  go_enter Tryd.func73, Tryd.ntmps73
  go_wp2_with (go_at_call 76; refine (lessSigned_any a b a0 a1 b0 b1 _).mono ?_; rintro e w' ⟨rfl, rfl⟩)
  go_ret
  exact ⟨rfl, rfl⟩

theorem holds9 (a b : Int) (a0 : 0 ≤ a) (a1 : a ≤ 4294967295) (b0 : 0 ≤ b) (b1 : b ≤ 4294967295) (w : World) :
    Calls Tryd.prog 73 #[.int .i64 9, .int .u32 a, .int .u32 b] w fun e w' => e = .returned (.bool (holds 9 a b)) ∧ w' = w := by
  go_enter Tryd.func73, Tryd.ntmps73
  go_wp2
  go_ret
  exact ⟨rfl, rfl⟩

theorem holds10 (a b : Int) (a0 : 0 ≤ a) (a1 : a ≤ 4294967295) (b0 : 0 ≤ b) (b1 : b ≤ 4294967295) (w : World) :
    Calls Tryd.prog 73 #[.int .i64 10, .int .u32 a, .int .u32 b] w fun e w' => e = .returned (.bool (holds 10 a b)) ∧ w' = w := by
  go_enter Tryd.func73, Tryd.ntmps73
  go_wp2
  go_ret
  exact ⟨rfl, rfl⟩

theorem holds_other (op a b : Int) (w : World) (n5 : (op == 5) = false) (n6 : (op == 6) = false) (n7 : (op == 7) = false) (n8 : (op == 8) = false) (n9 : (op == 9) = false) (n10 : (op == 10) = false) :
    Calls Tryd.prog 73 #[.int .i64 op, .int .u32 a, .int .u32 b] w fun e w' => e = .returned (.bool false) ∧ w' = w := by
  go_enter Tryd.func73, Tryd.ntmps73
  go_wp2
  go_ret
  exact ⟨rfl, rfl⟩

theorem holds_none (op a b : Int) (n5 : ¬ op = 5) (n6 : ¬ op = 6) (n7 : ¬ op = 7) (n8 : ¬ op = 8) (n9 : ¬ op = 9) (n10 : ¬ op = 10) : holds op a b = false := by
  unfold holds
  simp only [n5, n6, n7, n8, n9, n10, if_false]

/-- Holds: whether the branch is taken, known or not. -/
theorem Holds_any (op : Int) (a b : Int) (a0 : 0 ≤ a) (a1 : a ≤ 4294967295) (b0 : 0 ≤ b) (b1 : b ≤ 4294967295) (w : World) :
    Calls Tryd.prog 73 #[.int .i64 op, .int .u32 a, .int .u32 b] w fun e w' => e = .returned (.bool (holds op a b)) ∧ w' = w := by
  by_cases n5 : op = 5
  · subst n5; exact holds5 a b a0 a1 b0 b1 w
  by_cases n6 : op = 6
  · subst n6; exact holds6 a b a0 a1 b0 b1 w
  by_cases n7 : op = 7
  · subst n7; exact holds7 a b a0 a1 b0 b1 w
  by_cases n8 : op = 8
  · subst n8; exact holds8 a b a0 a1 b0 b1 w
  by_cases n9 : op = 9
  · subst n9; exact holds9 a b a0 a1 b0 b1 w
  by_cases n10 : op = 10
  · subst n10; exact holds10 a b a0 a1 b0 b1 w
  rw [holds_none op a b n5 n6 n7 n8 n9 n10]
  exact holds_other op a b w (by simpa using n5) (by simpa using n6) (by simpa using n7) (by simpa using n8) (by simpa using n9) (by simpa using n10)
end Go.Proofs.YtpiohehijkpghaaDoor
