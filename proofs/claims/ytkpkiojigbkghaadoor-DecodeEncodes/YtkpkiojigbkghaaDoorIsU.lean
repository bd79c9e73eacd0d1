/- What the document's Is asks of instructions of the forms U and J. -/
import Derived.Test.YtkpkiojigbkghaaDoorIsA
namespace Go.Proofs.YtkpkiojigbkghaaDoor
open Go.RowKit
open Hy
set_option linter.unusedVariables false
attribute [local go_sem ↓] Go.wp_at_zero Go.wp_at_succ

set_option maxRecDepth 20000 in
set_option maxHeartbeats 2000000 in
theorem Is_U_z0 (op rd rs1 rs2 imm : Int) (h1 : 1 ≤ op) (h2 : op ≤ 2) (a0 : 0 ≤ rd) (a1 : rd ≤ 31) (b0 : 0 ≤ rs1) (b1 : rs1 ≤ 31) (c0 : 0 ≤ rs2) (c1 : rs2 ≤ 31) (i0 : -2147483648 ≤ imm) (i1 : imm ≤ 2147483647) (zrs1 : (rs1 == 0) = false) (w : World) :
    Calls Tryd.prog 9 #[iv op rd rs1 rs2 imm] w fun e w' => (∃ b, e = .returned (.bool b) ∧ (b = true ↔ isf 1 rd rs1 rs2 imm)) ∧ Below w.heap.size w w' := by
  have hmf : ∀ (fn : Fn) (first cap : Array Value) (w : World), (Instr.makeFunc fn first cap).run Tryd.prog w = .ok (.func fn first cap) w := fun _ _ _ _ => rfl
  have o0 : decide (op < 1) = false := decide_eq_false (by omega)
  have o1 : decide (48 < op) = false := decide_eq_false (by omega)
  have o2 : decide (op ≤ 2) = true := decide_eq_true (by omega)
  have o3 : (op == 3) = false := beq_eq_false_iff_ne.2 (by omega)
  have o4 : (op == 4) = false := beq_eq_false_iff_ne.2 (by omega)
  have o5 : decide (11 ≤ op) = false := decide_eq_false (by omega)
  have o6 : decide (op ≤ 15) = true := decide_eq_true (by omega)
  have o7 : decide (19 ≤ op) = false := decide_eq_false (by omega)
  have o8 : decide (op ≤ 24) = true := decide_eq_true (by omega)
  have o9 : (op == 46) = false := beq_eq_false_iff_ne.2 (by omega)
  have o10 : decide (5 ≤ op) = false := decide_eq_false (by omega)
  have o11 : decide (op ≤ 10) = true := decide_eq_true (by omega)
  have o12 : decide (16 ≤ op) = false := decide_eq_false (by omega)
  have o13 : decide (op ≤ 18) = true := decide_eq_true (by omega)
  have o14 : decide (25 ≤ op) = false := decide_eq_false (by omega)
  have o15 : decide (op ≤ 27) = true := decide_eq_true (by omega)
  have o16 : decide (28 ≤ op) = false := decide_eq_false (by omega)
  have o17 : decide (op ≤ 45) = true := decide_eq_true (by omega)
  have q3 : decide (rd < 0) = false := decide_eq_false (by omega)
  have q4 : decide (31 < rd) = false := decide_eq_false (by omega)
  have q5 : decide (rs1 < 0) = false := decide_eq_false (by omega)
  have q6 : decide (31 < rs1) = false := decide_eq_false (by omega)
  have q7 : decide (rs2 < 0) = false := decide_eq_false (by omega)
  have q8 : decide (31 < rs2) = false := decide_eq_false (by omega)
  go_enter Tryd.func9, Tryd.ntmps9
  go_wp2_with fail
  go_ret
  refine ⟨⟨_, rfl, ?_⟩, ((Below.refl _ _).alloc (Nat.le_refl _) _).alloc (by simp) _⟩
  have yrs1 : rs1 ≠ 0 := by simpa using zrs1
  simp [isf]
  try rw [tz]
  try omega

set_option maxRecDepth 20000 in
set_option maxHeartbeats 2000000 in
theorem Is_U_z1 (op rd rs1 rs2 imm : Int) (h1 : 1 ≤ op) (h2 : op ≤ 2) (a0 : 0 ≤ rd) (a1 : rd ≤ 31) (b0 : 0 ≤ rs1) (b1 : rs1 ≤ 31) (c0 : 0 ≤ rs2) (c1 : rs2 ≤ 31) (i0 : -2147483648 ≤ imm) (i1 : imm ≤ 2147483647) (zrs1 : (rs1 == 0) = true) (zrs2 : (rs2 == 0) = false) (w : World) :
    Calls Tryd.prog 9 #[iv op rd rs1 rs2 imm] w fun e w' => (∃ b, e = .returned (.bool b) ∧ (b = true ↔ isf 1 rd rs1 rs2 imm)) ∧ Below w.heap.size w w' := by
  have hmf : ∀ (fn : Fn) (first cap : Array Value) (w : World), (Instr.makeFunc fn first cap).run Tryd.prog w = .ok (.func fn first cap) w := fun _ _ _ _ => rfl
  have o0 : decide (op < 1) = false := decide_eq_false (by omega)
  have o1 : decide (48 < op) = false := decide_eq_false (by omega)
  have o2 : decide (op ≤ 2) = true := decide_eq_true (by omega)
  have o3 : (op == 3) = false := beq_eq_false_iff_ne.2 (by omega)
  have o4 : (op == 4) = false := beq_eq_false_iff_ne.2 (by omega)
  have o5 : decide (11 ≤ op) = false := decide_eq_false (by omega)
  have o6 : decide (op ≤ 15) = true := decide_eq_true (by omega)
  have o7 : decide (19 ≤ op) = false := decide_eq_false (by omega)
  have o8 : decide (op ≤ 24) = true := decide_eq_true (by omega)
  have o9 : (op == 46) = false := beq_eq_false_iff_ne.2 (by omega)
  have o10 : decide (5 ≤ op) = false := decide_eq_false (by omega)
  have o11 : decide (op ≤ 10) = true := decide_eq_true (by omega)
  have o12 : decide (16 ≤ op) = false := decide_eq_false (by omega)
  have o13 : decide (op ≤ 18) = true := decide_eq_true (by omega)
  have o14 : decide (25 ≤ op) = false := decide_eq_false (by omega)
  have o15 : decide (op ≤ 27) = true := decide_eq_true (by omega)
  have o16 : decide (28 ≤ op) = false := decide_eq_false (by omega)
  have o17 : decide (op ≤ 45) = true := decide_eq_true (by omega)
  have q3 : decide (rd < 0) = false := decide_eq_false (by omega)
  have q4 : decide (31 < rd) = false := decide_eq_false (by omega)
  have q5 : decide (rs1 < 0) = false := decide_eq_false (by omega)
  have q6 : decide (31 < rs1) = false := decide_eq_false (by omega)
  have q7 : decide (rs2 < 0) = false := decide_eq_false (by omega)
  have q8 : decide (31 < rs2) = false := decide_eq_false (by omega)
  go_enter Tryd.func9, Tryd.ntmps9
  go_wp2_with fail
  go_ret
  refine ⟨⟨_, rfl, ?_⟩, ((Below.refl _ _).alloc (Nat.le_refl _) _).alloc (by simp) _⟩
  have yrs1 : rs1 = 0 := by simpa using zrs1
  have yrs2 : rs2 ≠ 0 := by simpa using zrs2
  simp [isf]
  try rw [tz]
  try omega

set_option maxRecDepth 20000 in
set_option maxHeartbeats 2000000 in
theorem Is_U_y (op rd rs1 rs2 imm : Int) (h1 : 1 ≤ op) (h2 : op ≤ 2) (a0 : 0 ≤ rd) (a1 : rd ≤ 31) (b0 : 0 ≤ rs1) (b1 : rs1 ≤ 31) (c0 : 0 ≤ rs2) (c1 : rs2 ≤ 31) (i0 : -2147483648 ≤ imm) (i1 : imm ≤ 2147483647) (zrs1 : (rs1 == 0) = true) (zrs2 : (rs2 == 0) = true) (w : World) :
    Calls Tryd.prog 9 #[iv op rd rs1 rs2 imm] w fun e w' => (∃ b, e = .returned (.bool b) ∧ (b = true ↔ isf 1 rd rs1 rs2 imm)) ∧ Below w.heap.size w w' := by
  have hmf : ∀ (fn : Fn) (first cap : Array Value) (w : World), (Instr.makeFunc fn first cap).run Tryd.prog w = .ok (.func fn first cap) w := fun _ _ _ _ => rfl
  have o0 : decide (op < 1) = false := decide_eq_false (by omega)
  have o1 : decide (48 < op) = false := decide_eq_false (by omega)
  have o2 : decide (op ≤ 2) = true := decide_eq_true (by omega)
  have o3 : (op == 3) = false := beq_eq_false_iff_ne.2 (by omega)
  have o4 : (op == 4) = false := beq_eq_false_iff_ne.2 (by omega)
  have o5 : decide (11 ≤ op) = false := decide_eq_false (by omega)
  have o6 : decide (op ≤ 15) = true := decide_eq_true (by omega)
  have o7 : decide (19 ≤ op) = false := decide_eq_false (by omega)
  have o8 : decide (op ≤ 24) = true := decide_eq_true (by omega)
  have o9 : (op == 46) = false := beq_eq_false_iff_ne.2 (by omega)
  have o10 : decide (5 ≤ op) = false := decide_eq_false (by omega)
  have o11 : decide (op ≤ 10) = true := decide_eq_true (by omega)
  have o12 : decide (16 ≤ op) = false := decide_eq_false (by omega)
  have o13 : decide (op ≤ 18) = true := decide_eq_true (by omega)
  have o14 : decide (25 ≤ op) = false := decide_eq_false (by omega)
  have o15 : decide (op ≤ 27) = true := decide_eq_true (by omega)
  have o16 : decide (28 ≤ op) = false := decide_eq_false (by omega)
  have o17 : decide (op ≤ 45) = true := decide_eq_true (by omega)
  have q3 : decide (rd < 0) = false := decide_eq_false (by omega)
  have q4 : decide (31 < rd) = false := decide_eq_false (by omega)
  have q5 : decide (rs1 < 0) = false := decide_eq_false (by omega)
  have q6 : decide (31 < rs1) = false := decide_eq_false (by omega)
  have q7 : decide (rs2 < 0) = false := decide_eq_false (by omega)
  have q8 : decide (31 < rs2) = false := decide_eq_false (by omega)
  go_enter Tryd.func9, Tryd.ntmps9
  go_wp2_with fail
  go_ret
  refine ⟨⟨_, rfl, ?_⟩, ((Below.refl _ _).alloc (Nat.le_refl _) _).alloc (by simp) _⟩
  have yrs1 : rs1 = 0 := by simpa using zrs1
  have yrs2 : rs2 = 0 := by simpa using zrs2
  simp [isf]
  try rw [tz]
  try omega

theorem Is_U (op rd rs1 rs2 imm : Int) (h1 : 1 ≤ op) (h2 : op ≤ 2) (a0 : 0 ≤ rd) (a1 : rd ≤ 31) (b0 : 0 ≤ rs1) (b1 : rs1 ≤ 31) (c0 : 0 ≤ rs2) (c1 : rs2 ≤ 31) (i0 : -2147483648 ≤ imm) (i1 : imm ≤ 2147483647) (w : World) :
    Calls Tryd.prog 9 #[iv op rd rs1 rs2 imm] w fun e w' => (∃ b, e = .returned (.bool b) ∧ (b = true ↔ isf 1 rd rs1 rs2 imm)) ∧ Below w.heap.size w w' := by
  cases zrs1 : (rs1 == 0) with
  | false => exact Is_U_z0 op rd rs1 rs2 imm h1 h2 a0 a1 b0 b1 c0 c1 i0 i1 zrs1 w
  | true =>
  cases zrs2 : (rs2 == 0) with
  | false => exact Is_U_z1 op rd rs1 rs2 imm h1 h2 a0 a1 b0 b1 c0 c1 i0 i1 zrs1 zrs2 w
  | true =>
  exact Is_U_y op rd rs1 rs2 imm h1 h2 a0 a1 b0 b1 c0 c1 i0 i1 zrs1 zrs2 w

set_option maxRecDepth 20000 in
set_option maxHeartbeats 2000000 in
theorem Is_J_z0 (op rd rs1 rs2 imm : Int) (h1 : 3 ≤ op) (h2 : op ≤ 3) (a0 : 0 ≤ rd) (a1 : rd ≤ 31) (b0 : 0 ≤ rs1) (b1 : rs1 ≤ 31) (c0 : 0 ≤ rs2) (c1 : rs2 ≤ 31) (i0 : -2147483648 ≤ imm) (i1 : imm ≤ 2147483647) (zrs1 : (rs1 == 0) = false) (w : World) :
    Calls Tryd.prog 9 #[iv op rd rs1 rs2 imm] w fun e w' => (∃ b, e = .returned (.bool b) ∧ (b = true ↔ isf 2 rd rs1 rs2 imm)) ∧ Below w.heap.size w w' := by
  have hmf : ∀ (fn : Fn) (first cap : Array Value) (w : World), (Instr.makeFunc fn first cap).run Tryd.prog w = .ok (.func fn first cap) w := fun _ _ _ _ => rfl
  have o0 : decide (op < 1) = false := decide_eq_false (by omega)
  have o1 : decide (48 < op) = false := decide_eq_false (by omega)
  have o2 : decide (op ≤ 2) = false := decide_eq_false (by omega)
  have o3 : (op == 3) = true := beq_iff_eq.2 (by omega)
  have o4 : (op == 4) = false := beq_eq_false_iff_ne.2 (by omega)
  have o5 : decide (11 ≤ op) = false := decide_eq_false (by omega)
  have o6 : decide (op ≤ 15) = true := decide_eq_true (by omega)
  have o7 : decide (19 ≤ op) = false := decide_eq_false (by omega)
  have o8 : decide (op ≤ 24) = true := decide_eq_true (by omega)
  have o9 : (op == 46) = false := beq_eq_false_iff_ne.2 (by omega)
  have o10 : decide (5 ≤ op) = false := decide_eq_false (by omega)
  have o11 : decide (op ≤ 10) = true := decide_eq_true (by omega)
  have o12 : decide (16 ≤ op) = false := decide_eq_false (by omega)
  have o13 : decide (op ≤ 18) = true := decide_eq_true (by omega)
  have o14 : decide (25 ≤ op) = false := decide_eq_false (by omega)
  have o15 : decide (op ≤ 27) = true := decide_eq_true (by omega)
  have o16 : decide (28 ≤ op) = false := decide_eq_false (by omega)
  have o17 : decide (op ≤ 45) = true := decide_eq_true (by omega)
  have q3 : decide (rd < 0) = false := decide_eq_false (by omega)
  have q4 : decide (31 < rd) = false := decide_eq_false (by omega)
  have q5 : decide (rs1 < 0) = false := decide_eq_false (by omega)
  have q6 : decide (31 < rs1) = false := decide_eq_false (by omega)
  have q7 : decide (rs2 < 0) = false := decide_eq_false (by omega)
  have q8 : decide (31 < rs2) = false := decide_eq_false (by omega)
  go_enter Tryd.func9, Tryd.ntmps9
  go_wp2_with fail
  go_ret
  refine ⟨⟨_, rfl, ?_⟩, ((Below.refl _ _).alloc (Nat.le_refl _) _).alloc (by simp) _⟩
  have yrs1 : rs1 ≠ 0 := by simpa using zrs1
  simp [isf]
  try rw [tz]
  try omega

set_option maxRecDepth 20000 in
set_option maxHeartbeats 2000000 in
theorem Is_J_z1 (op rd rs1 rs2 imm : Int) (h1 : 3 ≤ op) (h2 : op ≤ 3) (a0 : 0 ≤ rd) (a1 : rd ≤ 31) (b0 : 0 ≤ rs1) (b1 : rs1 ≤ 31) (c0 : 0 ≤ rs2) (c1 : rs2 ≤ 31) (i0 : -2147483648 ≤ imm) (i1 : imm ≤ 2147483647) (zrs1 : (rs1 == 0) = true) (zrs2 : (rs2 == 0) = false) (w : World) :
    Calls Tryd.prog 9 #[iv op rd rs1 rs2 imm] w fun e w' => (∃ b, e = .returned (.bool b) ∧ (b = true ↔ isf 2 rd rs1 rs2 imm)) ∧ Below w.heap.size w w' := by
  have hmf : ∀ (fn : Fn) (first cap : Array Value) (w : World), (Instr.makeFunc fn first cap).run Tryd.prog w = .ok (.func fn first cap) w := fun _ _ _ _ => rfl
  have o0 : decide (op < 1) = false := decide_eq_false (by omega)
  have o1 : decide (48 < op) = false := decide_eq_false (by omega)
  have o2 : decide (op ≤ 2) = false := decide_eq_false (by omega)
  have o3 : (op == 3) = true := beq_iff_eq.2 (by omega)
  have o4 : (op == 4) = false := beq_eq_false_iff_ne.2 (by omega)
  have o5 : decide (11 ≤ op) = false := decide_eq_false (by omega)
  have o6 : decide (op ≤ 15) = true := decide_eq_true (by omega)
  have o7 : decide (19 ≤ op) = false := decide_eq_false (by omega)
  have o8 : decide (op ≤ 24) = true := decide_eq_true (by omega)
  have o9 : (op == 46) = false := beq_eq_false_iff_ne.2 (by omega)
  have o10 : decide (5 ≤ op) = false := decide_eq_false (by omega)
  have o11 : decide (op ≤ 10) = true := decide_eq_true (by omega)
  have o12 : decide (16 ≤ op) = false := decide_eq_false (by omega)
  have o13 : decide (op ≤ 18) = true := decide_eq_true (by omega)
  have o14 : decide (25 ≤ op) = false := decide_eq_false (by omega)
  have o15 : decide (op ≤ 27) = true := decide_eq_true (by omega)
  have o16 : decide (28 ≤ op) = false := decide_eq_false (by omega)
  have o17 : decide (op ≤ 45) = true := decide_eq_true (by omega)
  have q3 : decide (rd < 0) = false := decide_eq_false (by omega)
  have q4 : decide (31 < rd) = false := decide_eq_false (by omega)
  have q5 : decide (rs1 < 0) = false := decide_eq_false (by omega)
  have q6 : decide (31 < rs1) = false := decide_eq_false (by omega)
  have q7 : decide (rs2 < 0) = false := decide_eq_false (by omega)
  have q8 : decide (31 < rs2) = false := decide_eq_false (by omega)
  go_enter Tryd.func9, Tryd.ntmps9
  go_wp2_with fail
  go_ret
  refine ⟨⟨_, rfl, ?_⟩, ((Below.refl _ _).alloc (Nat.le_refl _) _).alloc (by simp) _⟩
  have yrs1 : rs1 = 0 := by simpa using zrs1
  have yrs2 : rs2 ≠ 0 := by simpa using zrs2
  simp [isf]
  try rw [tz]
  try omega

set_option maxRecDepth 20000 in
set_option maxHeartbeats 2000000 in
theorem Is_J_g0 (op rd rs1 rs2 imm : Int) (h1 : 3 ≤ op) (h2 : op ≤ 3) (a0 : 0 ≤ rd) (a1 : rd ≤ 31) (b0 : 0 ≤ rs1) (b1 : rs1 ≤ 31) (c0 : 0 ≤ rs2) (c1 : rs2 ≤ 31) (i0 : -2147483648 ≤ imm) (i1 : imm ≤ 2147483647) (zrs1 : (rs1 == 0) = true) (zrs2 : (rs2 == 0) = true) (g : ¬ (-1048576 ≤ imm ∧ imm ≤ 1048574)) (w : World) :
    Calls Tryd.prog 9 #[iv op rd rs1 rs2 imm] w fun e w' => (∃ b, e = .returned (.bool b) ∧ (b = true ↔ isf 2 rd rs1 rs2 imm)) ∧ Below w.heap.size w w' := by
  have hmf : ∀ (fn : Fn) (first cap : Array Value) (w : World), (Instr.makeFunc fn first cap).run Tryd.prog w = .ok (.func fn first cap) w := fun _ _ _ _ => rfl
  have o0 : decide (op < 1) = false := decide_eq_false (by omega)
  have o1 : decide (48 < op) = false := decide_eq_false (by omega)
  have o2 : decide (op ≤ 2) = false := decide_eq_false (by omega)
  have o3 : (op == 3) = true := beq_iff_eq.2 (by omega)
  have o4 : (op == 4) = false := beq_eq_false_iff_ne.2 (by omega)
  have o5 : decide (11 ≤ op) = false := decide_eq_false (by omega)
  have o6 : decide (op ≤ 15) = true := decide_eq_true (by omega)
  have o7 : decide (19 ≤ op) = false := decide_eq_false (by omega)
  have o8 : decide (op ≤ 24) = true := decide_eq_true (by omega)
  have o9 : (op == 46) = false := beq_eq_false_iff_ne.2 (by omega)
  have o10 : decide (5 ≤ op) = false := decide_eq_false (by omega)
  have o11 : decide (op ≤ 10) = true := decide_eq_true (by omega)
  have o12 : decide (16 ≤ op) = false := decide_eq_false (by omega)
  have o13 : decide (op ≤ 18) = true := decide_eq_true (by omega)
  have o14 : decide (25 ≤ op) = false := decide_eq_false (by omega)
  have o15 : decide (op ≤ 27) = true := decide_eq_true (by omega)
  have o16 : decide (28 ≤ op) = false := decide_eq_false (by omega)
  have o17 : decide (op ≤ 45) = true := decide_eq_true (by omega)
  have q3 : decide (rd < 0) = false := decide_eq_false (by omega)
  have q4 : decide (31 < rd) = false := decide_eq_false (by omega)
  have q5 : decide (rs1 < 0) = false := decide_eq_false (by omega)
  have q6 : decide (31 < rs1) = false := decide_eq_false (by omega)
  have q7 : decide (rs2 < 0) = false := decide_eq_false (by omega)
  have q8 : decide (31 < rs2) = false := decide_eq_false (by omega)
  go_enter Tryd.func9, Tryd.ntmps9
  go_wp2_with (go_at_call 17; refine (within_no (-1048576) 1048574 imm _ _ (by simp [go_sem]) g).mono ?_; rintro e w' ⟨rfl, rfl⟩)
  go_ret
  refine ⟨⟨_, rfl, ?_⟩, ((Below.refl _ _).alloc (Nat.le_refl _) _).alloc (by simp) _⟩
  have yrs1 : rs1 = 0 := by simpa using zrs1
  have yrs2 : rs2 = 0 := by simpa using zrs2
  simp [isf]
  try rw [tz]
  try omega

set_option maxRecDepth 20000 in
set_option maxHeartbeats 2000000 in
theorem Is_J_g1 (op rd rs1 rs2 imm : Int) (h1 : 3 ≤ op) (h2 : op ≤ 3) (a0 : 0 ≤ rd) (a1 : rd ≤ 31) (b0 : 0 ≤ rs1) (b1 : rs1 ≤ 31) (c0 : 0 ≤ rs2) (c1 : rs2 ≤ 31) (i0 : -2147483648 ≤ imm) (i1 : imm ≤ 2147483647) (zrs1 : (rs1 == 0) = true) (zrs2 : (rs2 == 0) = true) (g : -1048576 ≤ imm ∧ imm ≤ 1048574) (w : World) :
    Calls Tryd.prog 9 #[iv op rd rs1 rs2 imm] w fun e w' => (∃ b, e = .returned (.bool b) ∧ (b = true ↔ isf 2 rd rs1 rs2 imm)) ∧ Below w.heap.size w w' := by
  have hmf : ∀ (fn : Fn) (first cap : Array Value) (w : World), (Instr.makeFunc fn first cap).run Tryd.prog w = .ok (.func fn first cap) w := fun _ _ _ _ => rfl
  have o0 : decide (op < 1) = false := decide_eq_false (by omega)
  have o1 : decide (48 < op) = false := decide_eq_false (by omega)
  have o2 : decide (op ≤ 2) = false := decide_eq_false (by omega)
  have o3 : (op == 3) = true := beq_iff_eq.2 (by omega)
  have o4 : (op == 4) = false := beq_eq_false_iff_ne.2 (by omega)
  have o5 : decide (11 ≤ op) = false := decide_eq_false (by omega)
  have o6 : decide (op ≤ 15) = true := decide_eq_true (by omega)
  have o7 : decide (19 ≤ op) = false := decide_eq_false (by omega)
  have o8 : decide (op ≤ 24) = true := decide_eq_true (by omega)
  have o9 : (op == 46) = false := beq_eq_false_iff_ne.2 (by omega)
  have o10 : decide (5 ≤ op) = false := decide_eq_false (by omega)
  have o11 : decide (op ≤ 10) = true := decide_eq_true (by omega)
  have o12 : decide (16 ≤ op) = false := decide_eq_false (by omega)
  have o13 : decide (op ≤ 18) = true := decide_eq_true (by omega)
  have o14 : decide (25 ≤ op) = false := decide_eq_false (by omega)
  have o15 : decide (op ≤ 27) = true := decide_eq_true (by omega)
  have o16 : decide (28 ≤ op) = false := decide_eq_false (by omega)
  have o17 : decide (op ≤ 45) = true := decide_eq_true (by omega)
  have q3 : decide (rd < 0) = false := decide_eq_false (by omega)
  have q4 : decide (31 < rd) = false := decide_eq_false (by omega)
  have q5 : decide (rs1 < 0) = false := decide_eq_false (by omega)
  have q6 : decide (31 < rs1) = false := decide_eq_false (by omega)
  have q7 : decide (rs2 < 0) = false := decide_eq_false (by omega)
  have q8 : decide (31 < rs2) = false := decide_eq_false (by omega)
  go_enter Tryd.func9, Tryd.ntmps9
  go_wp2_with (go_at_call 17; refine (within_yes (-1048576) 1048574 imm _ _ (by simp [go_sem]) g).mono ?_; rintro e w' ⟨rfl, rfl⟩)
  go_ret
  refine ⟨⟨_, rfl, ?_⟩, ((Below.refl _ _).alloc (Nat.le_refl _) _).alloc (by simp) _⟩
  have yrs1 : rs1 = 0 := by simpa using zrs1
  have yrs2 : rs2 = 0 := by simpa using zrs2
  simp [isf]
  try rw [tz]
  try omega

theorem Is_J (op rd rs1 rs2 imm : Int) (h1 : 3 ≤ op) (h2 : op ≤ 3) (a0 : 0 ≤ rd) (a1 : rd ≤ 31) (b0 : 0 ≤ rs1) (b1 : rs1 ≤ 31) (c0 : 0 ≤ rs2) (c1 : rs2 ≤ 31) (i0 : -2147483648 ≤ imm) (i1 : imm ≤ 2147483647) (w : World) :
    Calls Tryd.prog 9 #[iv op rd rs1 rs2 imm] w fun e w' => (∃ b, e = .returned (.bool b) ∧ (b = true ↔ isf 2 rd rs1 rs2 imm)) ∧ Below w.heap.size w w' := by
  cases zrs1 : (rs1 == 0) with
  | false => exact Is_J_z0 op rd rs1 rs2 imm h1 h2 a0 a1 b0 b1 c0 c1 i0 i1 zrs1 w
  | true =>
  cases zrs2 : (rs2 == 0) with
  | false => exact Is_J_z1 op rd rs1 rs2 imm h1 h2 a0 a1 b0 b1 c0 c1 i0 i1 zrs1 zrs2 w
  | true =>
  by_cases g : -1048576 ≤ imm ∧ imm ≤ 1048574
  · exact Is_J_g1 op rd rs1 rs2 imm h1 h2 a0 a1 b0 b1 c0 c1 i0 i1 zrs1 zrs2 g w
  · exact Is_J_g0 op rd rs1 rs2 imm h1 h2 a0 a1 b0 b1 c0 c1 i0 i1 zrs1 zrs2 g w

end Go.Proofs.YtkpkiojigbkghaaDoor
