/- What the document's Is asks of an instruction's numbers: those that are beyond all forms, walked. -/
import Derived.Test.YtkpkiojigbkghaaDoorDecE
import Derived.Test.YtkpkiojigbkghaaDoorDecQ
import Derived.Deep.DeepMust
import Derived.OpenShut
namespace Go.Proofs.YtkpkiojigbkghaaDoor
open Go.RowKit
open Hy
set_option linter.unusedVariables false
attribute [local go_sem ↓] Go.wp_at_zero Go.wp_at_succ

theorem tz (a k : Int) : a.tmod k = 0 ↔ a % k = 0 := ⟨fun h => Int.emod_eq_zero_of_dvd (Int.dvd_of_tmod_eq_zero h), fun h => Int.tmod_eq_zero_of_dvd (Int.dvd_of_emod_eq_zero h)⟩
theorem within_yes (lo hi n : Int) (B : Nat) (w : World) (hc : w.cell? ⟨B, 0, none⟩ = some (.int .i64 n)) (h : lo ≤ n ∧ n ≤ hi) :
    Calls Tryd.prog 17 #[.int .i64 lo, .int .i64 hi, .pointer (some ⟨B, 0, none⟩)] w fun e w' => e = .returned (.bool true) ∧ w' = w := by
  go_enter Tryd.func17, Tryd.ntmps17
  go_wp2_with fail
  all_goals (go_ret; refine ⟨?_, rfl⟩; simp; try omega)
theorem within_no (lo hi n : Int) (B : Nat) (w : World) (hc : w.cell? ⟨B, 0, none⟩ = some (.int .i64 n)) (h : ¬ (lo ≤ n ∧ n ≤ hi)) :
    Calls Tryd.prog 17 #[.int .i64 lo, .int .i64 hi, .pointer (some ⟨B, 0, none⟩)] w fun e w' => e = .returned (.bool false) ∧ w' = w := by
  go_enter Tryd.func17, Tryd.ntmps17
  go_wp2_with fail
  all_goals (go_ret; refine ⟨?_, rfl⟩; simp; try omega)

set_option maxRecDepth 20000 in
set_option maxHeartbeats 2000000 in
theorem Is_no0 (op rd rs1 rs2 imm : Int)  (h0 : op < 1) (w : World) :
    Calls Tryd.prog 9 #[iv op rd rs1 rs2 imm] w fun e w' => e = .returned (.bool false) ∧ Below w.heap.size w w' := by
  have q0 : decide (op < 1) = true := decide_eq_true h0
  go_enter Tryd.func9, Tryd.ntmps9
  go_wp2_with fail
  go_ret
  exact ⟨rfl, (Below.refl _ _).alloc (Nat.le_refl _) _⟩

set_option maxRecDepth 20000 in
set_option maxHeartbeats 2000000 in
theorem Is_no1 (op rd rs1 rs2 imm : Int) (h0 : ¬ op < 1) (h1 : 48 < op) (w : World) :
    Calls Tryd.prog 9 #[iv op rd rs1 rs2 imm] w fun e w' => e = .returned (.bool false) ∧ Below w.heap.size w w' := by
  have q0 : decide (op < 1) = false := decide_eq_false h0
  have q1 : decide (48 < op) = true := decide_eq_true h1
  go_enter Tryd.func9, Tryd.ntmps9
  go_wp2_with fail
  go_ret
  exact ⟨rfl, (Below.refl _ _).alloc (Nat.le_refl _) _⟩

set_option maxRecDepth 20000 in
set_option maxHeartbeats 2000000 in
theorem Is_no2 (op rd rs1 rs2 imm : Int) (h0 : ¬ op < 1) (h1 : ¬ 48 < op) (h2 : rd < 0) (w : World) :
    Calls Tryd.prog 9 #[iv op rd rs1 rs2 imm] w fun e w' => e = .returned (.bool false) ∧ Below w.heap.size w w' := by
  have q0 : decide (op < 1) = false := decide_eq_false h0
  have q1 : decide (48 < op) = false := decide_eq_false h1
  have q2 : decide (rd < 0) = true := decide_eq_true h2
  go_enter Tryd.func9, Tryd.ntmps9
  go_wp2_with fail
  go_ret
  exact ⟨rfl, (Below.refl _ _).alloc (Nat.le_refl _) _⟩

set_option maxRecDepth 20000 in
set_option maxHeartbeats 2000000 in
theorem Is_no3 (op rd rs1 rs2 imm : Int) (h0 : ¬ op < 1) (h1 : ¬ 48 < op) (h2 : ¬ rd < 0) (h3 : 31 < rd) (w : World) :
    Calls Tryd.prog 9 #[iv op rd rs1 rs2 imm] w fun e w' => e = .returned (.bool false) ∧ Below w.heap.size w w' := by
  have q0 : decide (op < 1) = false := decide_eq_false h0
  have q1 : decide (48 < op) = false := decide_eq_false h1
  have q2 : decide (rd < 0) = false := decide_eq_false h2
  have q3 : decide (31 < rd) = true := decide_eq_true h3
  go_enter Tryd.func9, Tryd.ntmps9
  go_wp2_with fail
  go_ret
  exact ⟨rfl, (Below.refl _ _).alloc (Nat.le_refl _) _⟩

set_option maxRecDepth 20000 in
set_option maxHeartbeats 2000000 in
theorem Is_no4 (op rd rs1 rs2 imm : Int) (h0 : ¬ op < 1) (h1 : ¬ 48 < op) (h2 : ¬ rd < 0) (h3 : ¬ 31 < rd) (h4 : rs1 < 0) (w : World) :
    Calls Tryd.prog 9 #[iv op rd rs1 rs2 imm] w fun e w' => e = .returned (.bool false) ∧ Below w.heap.size w w' := by
  have q0 : decide (op < 1) = false := decide_eq_false h0
  have q1 : decide (48 < op) = false := decide_eq_false h1
  have q2 : decide (rd < 0) = false := decide_eq_false h2
  have q3 : decide (31 < rd) = false := decide_eq_false h3
  have q4 : decide (rs1 < 0) = true := decide_eq_true h4
  go_enter Tryd.func9, Tryd.ntmps9
  go_wp2_with fail
  go_ret
  exact ⟨rfl, (Below.refl _ _).alloc (Nat.le_refl _) _⟩

set_option maxRecDepth 20000 in
set_option maxHeartbeats 2000000 in
theorem Is_no5 (op rd rs1 rs2 imm : Int) (h0 : ¬ op < 1) (h1 : ¬ 48 < op) (h2 : ¬ rd < 0) (h3 : ¬ 31 < rd) (h4 : ¬ rs1 < 0) (h5 : 31 < rs1) (w : World) :
    Calls Tryd.prog 9 #[iv op rd rs1 rs2 imm] w fun e w' => e = .returned (.bool false) ∧ Below w.heap.size w w' := by
  have q0 : decide (op < 1) = false := decide_eq_false h0
  have q1 : decide (48 < op) = false := decide_eq_false h1
  have q2 : decide (rd < 0) = false := decide_eq_false h2
  have q3 : decide (31 < rd) = false := decide_eq_false h3
  have q4 : decide (rs1 < 0) = false := decide_eq_false h4
  have q5 : decide (31 < rs1) = true := decide_eq_true h5
  go_enter Tryd.func9, Tryd.ntmps9
  go_wp2_with fail
  go_ret
  exact ⟨rfl, (Below.refl _ _).alloc (Nat.le_refl _) _⟩

set_option maxRecDepth 20000 in
set_option maxHeartbeats 2000000 in
theorem Is_no6 (op rd rs1 rs2 imm : Int) (h0 : ¬ op < 1) (h1 : ¬ 48 < op) (h2 : ¬ rd < 0) (h3 : ¬ 31 < rd) (h4 : ¬ rs1 < 0) (h5 : ¬ 31 < rs1) (h6 : rs2 < 0) (w : World) :
    Calls Tryd.prog 9 #[iv op rd rs1 rs2 imm] w fun e w' => e = .returned (.bool false) ∧ Below w.heap.size w w' := by
  have q0 : decide (op < 1) = false := decide_eq_false h0
  have q1 : decide (48 < op) = false := decide_eq_false h1
  have q2 : decide (rd < 0) = false := decide_eq_false h2
  have q3 : decide (31 < rd) = false := decide_eq_false h3
  have q4 : decide (rs1 < 0) = false := decide_eq_false h4
  have q5 : decide (31 < rs1) = false := decide_eq_false h5
  have q6 : decide (rs2 < 0) = true := decide_eq_true h6
  go_enter Tryd.func9, Tryd.ntmps9
  go_wp2_with fail
  go_ret
  exact ⟨rfl, (Below.refl _ _).alloc (Nat.le_refl _) _⟩

set_option maxRecDepth 20000 in
set_option maxHeartbeats 2000000 in
theorem Is_no7 (op rd rs1 rs2 imm : Int) (h0 : ¬ op < 1) (h1 : ¬ 48 < op) (h2 : ¬ rd < 0) (h3 : ¬ 31 < rd) (h4 : ¬ rs1 < 0) (h5 : ¬ 31 < rs1) (h6 : ¬ rs2 < 0) (h7 : 31 < rs2) (w : World) :
    Calls Tryd.prog 9 #[iv op rd rs1 rs2 imm] w fun e w' => e = .returned (.bool false) ∧ Below w.heap.size w w' := by
  have q0 : decide (op < 1) = false := decide_eq_false h0
  have q1 : decide (48 < op) = false := decide_eq_false h1
  have q2 : decide (rd < 0) = false := decide_eq_false h2
  have q3 : decide (31 < rd) = false := decide_eq_false h3
  have q4 : decide (rs1 < 0) = false := decide_eq_false h4
  have q5 : decide (31 < rs1) = false := decide_eq_false h5
  have q6 : decide (rs2 < 0) = false := decide_eq_false h6
  have q7 : decide (31 < rs2) = true := decide_eq_true h7
  go_enter Tryd.func9, Tryd.ntmps9
  go_wp2_with fail
  go_ret
  exact ⟨rfl, (Below.refl _ _).alloc (Nat.le_refl _) _⟩

end Go.Proofs.YtkpkiojigbkghaaDoor
