/- What the program's Store comes to. -/
import Derived.Test.YtpiohehijkpghaaMemL
namespace Go.Proofs.Ytpiohehijkpghaa
open Go.RowKit
open Hy
set_option linter.unusedVariables false

set_option maxHeartbeats 1000000 in
theorem scatter_any (h a n c : Nat) (m B : Nat) (W : Int) (f : Nat → Int) (hm : m = 1 ∨ m = 2 ∨ m = 4) (hmn : a + m ≤ n) (hn : n ≤ 140737488355328) (W0 : 0 ≤ W) (W1 : W ≤ 4294967295) (w : World) (H : Fr w B h n f) :
    Calls Try.prog 38 #[.slice (some ⟨h, a, none⟩) (n - a) c, .int .u32 m, .int .u32 W] w fun e w' => e = .returned (.tuple #[]) ∧ Fr w' B h n (sto f a W m) ∧ Below B w w' ∧ w'.heap.size = w.heap.size := by
  go_enter Try.func38, Try.ntmps38
  go_wp2
  go_loopw [6, 8] (fun i k wr => ∃ j : Nat, j ≤ m ∧ k = .int .u32 j ∧ Fr wr B h n (sto f a W j) ∧ Below B w wr ∧ wr.heap.size = w.heap.size) (fun _ k _ => m - (intOf k).toNat)
  case atStart => exact ⟨0, by omega, rfl, H.congr fun i _ => by unfold sto; rw [if_neg (by omega)], Below.refl _ _, rfl⟩
  case round =>
    obtain ⟨j, hj, rfl, hF, hB, hS⟩ := hrel
    by_cases hlt : j < m
    · have c0 := hF.cell (a + j) (by omega)
      have z0 := hF.free (a + j) (by omega)
      rcases (by omega : j = 0 ∨ j = 1 ∨ j = 2 ∨ j = 3) with rfl | rfl | rfl | rfl
      · rw [Nat.add_zero] at c0 z0
        go_wp2
        refine ⟨⟨1, by omega, rfl, hF.step (j := 0) (by omega) _ (by rw [show p256 0 = 1 from rfl, Int.ediv_one]), hB.setCell hF.base _, by simpa using hS⟩, by simp [intOf]; omega⟩
      · go_wp2
        refine ⟨⟨2, by omega, rfl, hF.step (j := 1) (by omega) _ rfl, hB.setCell hF.base _, by simpa using hS⟩, by simp [intOf]; omega⟩
      · go_wp2
        refine ⟨⟨3, by omega, rfl, hF.step (j := 2) (by omega) _ rfl, hB.setCell hF.base _, by simpa using hS⟩, by simp [intOf]; omega⟩
      · go_wp2
        refine ⟨⟨4, by omega, rfl, hF.step (j := 3) (by omega) _ (by rw [show p256 3 = 16777216 from rfl]; omega), hB.setCell hF.base _, by simpa using hS⟩, by simp [intOf]; omega⟩
    · obtain rfl : j = m := by omega
      go_wp2
      go_end0
      exact ⟨rfl, hF, hB, hS⟩

theorem Store_no (p : Option Addr) (n c : Nat) (op a W : Int) (hn : n ≤ 140737488355328) (a0 : 0 ≤ a) (a1 : a ≤ 4294967295) (h : ¬ (0 < stn op ∧ a % stn op = 0 ∧ a + stn op ≤ n)) (w : World) :
    Calls Try.prog 12 #[.slice p n c, .int .i64 op, .int .u32 a, .int .u32 W] w fun e w' => e = .returned (.tuple #[.slice none 0 0, .bool false]) ∧ w' = w := by
  have C1 := Stores_no p n c op a hn a0 a1 h
  clear h
  go_enter Try.func12, Try.ntmps12
  go_wp2_with fail
  refine (C1 _).mono ?_
  rintro e w' ⟨rfl, rfl⟩
  go_wp2_with fail
  go_ret2
  exact ⟨rfl, rfl⟩

set_option maxHeartbeats 1000000 in
theorem Store_any (g o n c : Nat) (op : Int) (a m : Nat) (W : Int) (f : Nat → Int) (hM : stn op = (m : Int)) (hn : n ≤ 140737488355328) (a1 : a ≤ 4294967295) (h0 : 0 < m) (h1 : a % m = 0) (h2 : a + m ≤ n) (hnc : n ≤ c) (W0 : 0 ≤ W) (W1 : W ≤ 4294967295) (w : World)
    (hc : Lies w g o n f) :
    Calls Try.prog 12 #[.slice (some ⟨g, o, none⟩) n c, .int .i64 op, .int .u32 a, .int .u32 W] w fun e w' => (∃ h cap, e = .returned (.tuple #[.slice (some ⟨h, 0, none⟩) n cap, .bool true]) ∧ n ≤ cap ∧ Fr w' w.heap.size h n (sto f a W m)) ∧ Below w.heap.size w w' := by
  have hm' := stn_cases op
  have hm : m = 1 ∨ m = 2 ∨ m = 4 := by omega
  have C1 := fun w => Stores_yes (some ⟨g, o, none⟩) n c op a hn (by omega) (by omega) (by rw [hM]; exact ⟨by omega, by omega, by omega⟩) w
  rw [hM] at C1 hm'
  have C3 := fun w hc => Clone_any g o n c f (by omega) hn w hc
  clear hm'
  go_enter Try.func12, Try.ntmps12
  go_wp2_with fail
  refine (C1 _).mono ?_
  rintro e w' ⟨rfl, rfl⟩
  go_wp2_with fail
  refine (C3 _ hc).mono ?_
  rintro e w1 ⟨⟨h, cap, rfl, hcap, hmax, hF⟩, hB⟩
  clear C1 C3
  go_wp2_with fail
  refine (scatter_any h a n (cap - a) m w'.heap.size W f hm (by omega) hn W0 W1 w1 hF).mono ?_
  rintro e w2 ⟨rfl, hF2, hB2, hS2⟩
  go_wp2_with fail
  go_ret2
  exact ⟨⟨h, cap, rfl, hcap, hF2⟩, hB.trans hB2⟩

end Go.Proofs.Ytpiohehijkpghaa
