/- What the program learns of a word. -/
import Derived.Test.YtoajbcigenjmmabGueD
import Derived.Deep.RegionWith
namespace Go.Proofs.Ytoajbcigenjmmab
open Go.RowKit
open Hy
set_option linter.unusedVariables false
/-- Stride behind a word. -/
def lS (P A S pc v : Int) : Int := if P = pc then (if v = (A + S) % 4294967296 then S else (v - A) % 4294967296) else 0
/-- Sure behind a word. -/
def lU (P A S U pc v : Int) : Int := if P = pc then (if v = (A + S) % 4294967296 then bnd (bnd U + 1) else 0) else 0
theorem size_value : (Try.prog.info? 27).map (·.size) = some 4 := by kernel_rfl
set_option maxRecDepth 20000 in
set_option maxHeartbeats 1000000 in
theorem glearnt_any (pc v P A S U X Y : Int) (a0 : 0 ≤ A) (a1 : A ≤ 4294967295) (s0 : 0 ≤ S) (s1 : S ≤ 4294967295) (v0 : 0 ≤ v) (v1 : v ≤ 4294967295) (hX : Hid (X = lS P A S pc v)) (hY : Hid (Y = lU P A S U pc v)) (w : World) :
    Calls Try.prog 23 #[.agg #[.int .u32 P, .int .u32 A, .int .u32 S, .int .i64 U], .int .u32 pc, .int .u32 v] w fun e w' => e = .returned (.agg #[.int .u32 pc, .int .u32 v, .int .u32 X, .int .i64 Y]) ∧ Below w.heap.size w w' := by
  obtain ⟨N, hN⟩ : ∃ N, N = bnd (bnd U + 1) := ⟨_, rfl⟩
  have D := gmore_any U
  rw [← hN] at D
  have HN : Hid (N = bnd (bnd U + 1)) := hN
  clear hN
  by_cases hp : P = pc
  · by_cases hv : v = (A + S) % 4294967296
    · have X1 : X = S := by rw [hX.out]; simp [lS, hp, ← hv]
      have Y1 : Y = N := by rw [hY.out, HN.out]; simp [lU, hp, ← hv]
      subst X1 Y1
      have hv' : (v == (A + X) % 4294967296) = true := by simpa using hv
      clear hX hY HN hv
      go_enter Try.func23, Try.ntmps23
      go_wp2_with fail
      go_region_with (first | (go_at_call 21; refine (D _).mono ?_; rintro e w' ⟨rfl, rfl⟩))
      all_goals (go_wp2_with fail)
      all_goals exact bodyPost_ret (v := .agg _) (results_cell_row Try.results23 _ _ _ 27 _ (0, 0) _ rfl (heap_alloc2_new _ _ _) Try.underlying27 rfl size_value) rfl ⟨rfl, (((Below.refl _ _).alloc (Nat.le_refl _) _).alloc (by simp) _).drew⟩
    · have X1 : X = (v - A) % 4294967296 := by rw [hX.out]; simp [lS, hp, hv]
      have Y1 : Y = 0 := by rw [hY.out]; simp [lU, hp, hv]
      subst X1 Y1
      clear hX hY HN
      have hv' : (v == (A + S) % 4294967296) = false := by simpa using hv
      go_enter Try.func23, Try.ntmps23
      go_wp2_with fail
      all_goals exact bodyPost_ret (v := .agg _) (results_cell_row Try.results23 _ _ _ 27 _ (0, 0) _ rfl (heap_alloc2_new _ _ _) Try.underlying27 rfl size_value) rfl ⟨rfl, ((Below.refl _ _).alloc (Nat.le_refl _) _).alloc (by simp) _⟩
  · have X1 : X = 0 := by rw [hX.out]; simp [lS, hp]
    have Y1 : Y = 0 := by rw [hY.out]; simp [lU, hp]
    subst X1 Y1
    clear hX hY HN
    have hp' : (P != pc) = true := by simpa using hp
    go_enter Try.func23, Try.ntmps23
    go_wp2_with fail
    all_goals exact bodyPost_ret (v := .agg _) (results_cell_row Try.results23 _ _ _ 27 _ (0, 0) _ rfl (heap_alloc2_new _ _ _) Try.underlying27 rfl size_value) rfl ⟨rfl, ((Below.refl _ _).alloc (Nat.le_refl _) _).alloc (by simp) _⟩
end Go.Proofs.Ytoajbcigenjmmab
