/- What the small functions of chapter 6 come to: places, bounds, sums. -/
import Derived.Test.YtoajbcigenjmmabChecked
import Derived.Test.YtoajbcigenjmmabGueA
import Derived.ProofKit
import Derived.Below
import Derived.Deep.MidRow
import Derived.Deep.WholeRow
import Derived.Laws.Rows
import Derived.Laws.Tables
import Derived.Deep.QuietTactic
import Derived.BigQuiet
namespace Go.Proofs.Ytoajbcigenjmmab
open Go.RowKit
open Hy
set_option linter.unusedVariables false

theorem gcounterOf_any (pc : Int) (p0 : 0 ≤ pc) (p1 : pc ≤ 4294967295) (w : World) :
    Calls Try.prog 16 #[.int .u32 pc] w fun e w' => e = .returned (.int .u32 (pc / 4 % 16)) ∧ w' = w := by
  go_enter Try.func16, Try.ntmps16
  go_wp2
  go_ret
  exact ⟨by go_num, rfl⟩
theorem gvalueOf_any (pc : Int) (p0 : 0 ≤ pc) (p1 : pc ≤ 4294967295) (w : World) :
    Calls Try.prog 19 #[.int .u32 pc] w fun e w' => e = .returned (.int .u32 (pc / 4 % 8)) ∧ w' = w := by
  go_enter Try.func19, Try.ntmps19
  go_wp2
  go_ret
  exact ⟨by go_num, rfl⟩
theorem xplace_any (pc m : Int) (p0 : 0 ≤ pc) (p1 : pc ≤ 4294967295) (hm : m = 8 ∨ m = 16) (w : World) :
    Calls Try.prog 17 #[.int .u32 pc, .int .i64 m] w fun e w' => e = .returned (.int .i64 (pc / 4 % m)) ∧ w' = w := by
  rcases hm with rfl | rfl
  all_goals (go_enter Try.func17, Try.ntmps17; go_wp2; go_ret; exact ⟨by go_num, rfl⟩)
theorem xbound_any (n : Int) (w : World) :
    Calls Try.prog 18 #[.int .i64 n] w fun e w' => e = .returned (.int .i64 (bnd n)) ∧ w' = w := by
  go_enter Try.func18, Try.ntmps18
  go_wp2
  all_goals (go_ret; refine ⟨?_, rfl⟩; simp_all [bnd])
  all_goals omega
theorem xsum_any (a b : Int) (a0 : 0 ≤ a) (a1 : a ≤ 4294967295) (b0 : 0 ≤ b) (b1 : b ≤ 4294967295) (w : World) :
    Calls Try.prog 20 #[.int .u32 a, .int .u32 b] w fun e w' => e = .returned (.int .u32 ((a + b) % 4294967296)) ∧ w' = w := by
  go_enter Try.func20, Try.ntmps20
  go_wp2
  go_ret
  exact ⟨by go_num, rfl⟩
theorem gwithin_any (n : Int) (w : World) :
    Calls Try.prog 25 #[.int .i64 n] w fun e w' => e = .returned (.int .i64 (bnd n)) ∧ w' = w := by
  go_enter Try.func25, Try.ntmps25
  go_wp2
  all_goals (go_ret; refine ⟨?_, rfl⟩; simp_all [bnd])
  all_goals omega
theorem bnd_range (n : Int) : 0 ≤ bnd n ∧ bnd n ≤ 3 := by
  unfold bnd
  split
  · omega
  · split <;> omega
theorem gmore_any (n : Int) (w : World) :
    Calls Try.prog 21 #[.int .i64 n] w fun e w' => e = .returned (.int .i64 (bnd (bnd n + 1))) ∧ w' = w := by
  obtain ⟨b0, b1⟩ := bnd_range n
  obtain ⟨b, hb⟩ : ∃ b, b = bnd n := ⟨_, rfl⟩
  have H := gwithin_any n
  rw [← hb] at b0 b1 H ⊢
  clear hb
  go_enter Try.func21, Try.ntmps21
  go_wp2_with (go_at_call 25; refine (H _).mono ?_; rintro e w' ⟨rfl, rfl⟩)
  all_goals (go_ret; refine ⟨?_, rfl⟩; unfold bnd; try simp)
  all_goals (repeat' split) <;> first | omega | rfl | skip
theorem gless_any (n : Int) (w : World) :
    Calls Try.prog 22 #[.int .i64 n] w fun e w' => e = .returned (.int .i64 (bnd (bnd n - 1))) ∧ w' = w := by
  obtain ⟨b0, b1⟩ := bnd_range n
  obtain ⟨b, hb⟩ : ∃ b, b = bnd n := ⟨_, rfl⟩
  have H := gwithin_any n
  rw [← hb] at b0 b1 H ⊢
  clear hb
  go_enter Try.func22, Try.ntmps22
  go_wp2_with (go_at_call 25; refine (H _).mono ?_; rintro e w' ⟨rfl, rfl⟩)
  all_goals (go_ret; refine ⟨?_, rfl⟩; unfold bnd; try simp)
  all_goals (repeat' split) <;> first | omega | rfl | skip
theorem bnd2 (n : Int) : decide (2 ≤ bnd n) = decide (2 ≤ n) := by
  apply decide_eq_decide.2
  unfold bnd
  split
  · omega
  · split <;> omega
theorem below_drewN {B : Nat} {a w : World} (h : Below B a w) (n : Nat) : Below B a (w.drewN n) := ⟨h.os, h.tape, h.output, h.size, h.block⟩
end Go.Proofs.Ytoajbcigenjmmab
