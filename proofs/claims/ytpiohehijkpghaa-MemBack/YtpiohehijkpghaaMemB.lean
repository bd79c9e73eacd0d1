/- What was stored is loaded again, and all other bytes are as they were: walked. -/
import Derived.Test.YtpiohehijkpghaaMemT
import Derived.BigQuiet
import Derived.Deep.DeepMust
namespace Go.Proofs.Ytpiohehijkpghaa
open Go.RowKit
open Hy
set_option linter.unusedVariables false

theorem sto_in (f : Nat → Int) (a m i : Nat) (W : Int) (h : i < m) : sto f a W m (a + i) = W / p256 i % 256 := by
  unfold sto
  rw [if_pos ⟨by omega, by omega⟩, show a + i - a = i by omega]
theorem sto_out (f : Nat → Int) (a m i : Nat) (W : Int) (h : i < a ∨ a + m ≤ i) : sto f a W m i = f i := by
  unfold sto
  rw [if_neg (by omega)]

/-- The load that reads what a store has laid, and its mask. -/
def ldo (op : Int) : Int := if op = 16 then 14 else if op = 17 then 15 else 13
def msk4 (op : Int) : Int := if op = 16 then 255 else if op = 17 then 65535 else 4294967295

theorem ldo_size (op : Int) (h : op = 16 ∨ op = 17 ∨ op = 18) : ldn (ldo op) = stn op := by
  rcases h with rfl | rfl | rfl <;> decide

theorem and65535 (x : Int) (x0 : 0 ≤ x) (x1 : x < 4294967296) : bits .and .u32 x 65535 = x % 65536 := and_low 16 (by omega) _ _ x rfl rfl x0 x1

theorem ld_sto (op : Int) (h : op = 16 ∨ op = 17 ∨ op = 18) (f : Nat → Int) (a m : Nat) (W : Int) (W0 : 0 ≤ W) (W1 : W ≤ 4294967295) (hm : stn op = (m : Int)) : ldv (ldo op) (fun i => sto f a W m (a + i)) = bits .and .u32 W (msk4 op) := by
  rcases h with rfl | rfl | rfl
  · obtain rfl : m = 1 := by simp [stn] at hm; omega
    show sto f a W 1 (a + 0) = bits .and .u32 W 255
    rw [sto_in f a 1 0 W (by omega), and255 W W0 (by omega), show p256 0 = 1 from rfl]
    omega
  · obtain rfl : m = 2 := by simp [stn] at hm; omega
    show sto f a W 2 (a + 0) + sto f a W 2 (a + 1) * 256 = bits .and .u32 W 65535
    rw [sto_in f a 2 0 W (by omega), sto_in f a 2 1 W (by omega), and65535 W W0 (by omega), show p256 0 = 1 from rfl, show p256 1 = 256 from rfl]
    omega
  · obtain rfl : m = 4 := by simp [stn] at hm; omega
    show sto f a W 4 (a + 0) + sto f a W 4 (a + 1) * 256 + sto f a W 4 (a + 2) * 65536 + sto f a W 4 (a + 3) * 16777216 = bits .and .u32 W 4294967295
    rw [sto_in f a 4 0 W (by omega), sto_in f a 4 1 W (by omega), sto_in f a 4 2 W (by omega), sto_in f a 4 3 W (by omega), andAll W W0 (by omega), show p256 0 = 1 from rfl, show p256 1 = 256 from rfl, show p256 2 = 65536 from rfl, show p256 3 = 16777216 from rfl]
    omega

theorem Store_one (g : Nat) (w : World) (hc : w.cell? ⟨g, 0, none⟩ = some (.int .u8 0)) :
    Calls Try.prog 12 #[.slice (some ⟨g, 0, none⟩) 1 1, .int .i64 16, .int .u32 0, .int .u32 7] w fun e w' => (∃ h cap, e = .returned (.tuple #[.slice (some ⟨h, 0, none⟩) 1 cap, .bool true]) ∧ w'.cell? ⟨h, 0, none⟩ = some (.int .u8 7)) ∧ Below w.heap.size w w' := by
  have hL : Lies w g 0 1 (fun _ => 0) := fun i hi => by
    obtain rfl : i = 0 := by omega
    exact hc
  refine (Store_any g 0 1 1 16 0 1 7 (fun _ => 0) (by decide) (by omega) (by omega) (by omega) (by omega) (by omega) (by omega) (by omega) (by omega) w hL).mono ?_
  rintro e w' ⟨⟨h, cap, rfl, _, hF⟩, hB⟩
  exact ⟨⟨h, cap, rfl, hF.cell 0 (by omega)⟩, hB⟩

theorem kloads_any (op : Int) (w : World) :
    Calls Try.prog 16 #[.int .i64 op] w fun e w' => e = .returned (.int .i64 (if op = 16 then 14 else if op = 17 then 15 else 13)) ∧ w' = w := by
  go_enter Try.func16, Try.ntmps16
  go_wp2
  all_goals (go_ret; refine ⟨?_, rfl⟩; simp_all)

theorem kloads_0 (w : World) : Calls Try.prog 16 #[.int .i64 16] w fun e w' => e = .returned (.int .i64 14) ∧ w' = w := by
  refine (kloads_any 16 w).mono ?_
  rintro e w' ⟨rfl, rfl⟩
  exact ⟨rfl, rfl⟩

set_option maxHeartbeats 1000000 in
theorem Back_no0 (p : Option Addr) (n c : Nat) (u : Int) (a : Nat) (W : Int) (hn : n ≤ 140737488355328) (a1 : a ≤ 4294967295) (u0 : 0 ≤ u) (u1 : u ≤ 255) (w : World)
    (hu : u.tmod 3 = 0) (ho : ¬ (0 < stn 16 ∧ (a : Int) % stn 16 = 0 ∧ (a : Int) + stn 16 ≤ n)) :
    Calls Try.prog 6 #[.slice p n c, .int .u8 u, .int .u32 a, .int .u32 W] w fun e w' => e = .returned (.bool true) ∧ Below w.heap.size w w' := by
  have C1 := fun w => Store_no p n c 16 a W hn (by omega) (by omega) ho w
  have C3 := fun w => Load_no p n c 14 a hn (by omega) (by omega) (by rw [show ldn 14 = stn 16 by decide]; exact ho) w
  clear ho
  go_enter Try.func6, Try.ntmps6
  go_wp2_with fail
  refine (C1 _).mono ?_
  rintro e w1 ⟨rfl, hw⟩
  subst hw
  go_wp2_with fail
  refine (kloads_0 _).mono ?_
  rintro e w1 ⟨rfl, hw⟩
  subst hw
  go_wp2_with fail
  refine (C3 _).mono ?_
  rintro e w1 ⟨rfl, hw⟩
  subst hw
  go_wp2_with fail
  refine (Store_one _ _ (by simp [go_sem])).mono ?_
  rintro e w2 ⟨⟨h, cap, rfl, hc⟩, hB⟩
  go_wp2_with fail
  go_ret
  exact ⟨rfl, ((((Below.refl _ _).alloc (Nat.le_refl _) _).alloc (by simp) _).alloc (by simp; omega) _ |>.alloc (by simp; omega) _).trans (hB.mono (by simp; omega))⟩

theorem kloads_1 (w : World) : Calls Try.prog 16 #[.int .i64 17] w fun e w' => e = .returned (.int .i64 15) ∧ w' = w := by
  refine (kloads_any 17 w).mono ?_
  rintro e w' ⟨rfl, rfl⟩
  exact ⟨rfl, rfl⟩

set_option maxHeartbeats 1000000 in
theorem Back_no1 (p : Option Addr) (n c : Nat) (u : Int) (a : Nat) (W : Int) (hn : n ≤ 140737488355328) (a1 : a ≤ 4294967295) (u0 : 0 ≤ u) (u1 : u ≤ 255) (w : World)
    (hu : u.tmod 3 = 1) (ho : ¬ (0 < stn 17 ∧ (a : Int) % stn 17 = 0 ∧ (a : Int) + stn 17 ≤ n)) :
    Calls Try.prog 6 #[.slice p n c, .int .u8 u, .int .u32 a, .int .u32 W] w fun e w' => e = .returned (.bool true) ∧ Below w.heap.size w w' := by
  have C1 := fun w => Store_no p n c 17 a W hn (by omega) (by omega) ho w
  have C3 := fun w => Load_no p n c 15 a hn (by omega) (by omega) (by rw [show ldn 15 = stn 17 by decide]; exact ho) w
  clear ho
  go_enter Try.func6, Try.ntmps6
  go_wp2_with fail
  refine (C1 _).mono ?_
  rintro e w1 ⟨rfl, hw⟩
  subst hw
  go_wp2_with fail
  refine (kloads_1 _).mono ?_
  rintro e w1 ⟨rfl, hw⟩
  subst hw
  go_wp2_with fail
  refine (C3 _).mono ?_
  rintro e w1 ⟨rfl, hw⟩
  subst hw
  go_wp2_with fail
  refine (Store_one _ _ (by simp [go_sem])).mono ?_
  rintro e w2 ⟨⟨h, cap, rfl, hc⟩, hB⟩
  go_wp2_with fail
  go_ret
  exact ⟨rfl, ((((Below.refl _ _).alloc (Nat.le_refl _) _).alloc (by simp) _).alloc (by simp; omega) _ |>.alloc (by simp; omega) _).trans (hB.mono (by simp; omega))⟩

theorem kloads_2 (w : World) : Calls Try.prog 16 #[.int .i64 18] w fun e w' => e = .returned (.int .i64 13) ∧ w' = w := by
  refine (kloads_any 18 w).mono ?_
  rintro e w' ⟨rfl, rfl⟩
  exact ⟨rfl, rfl⟩

set_option maxHeartbeats 1000000 in
theorem Back_no2 (p : Option Addr) (n c : Nat) (u : Int) (a : Nat) (W : Int) (hn : n ≤ 140737488355328) (a1 : a ≤ 4294967295) (u0 : 0 ≤ u) (u1 : u ≤ 255) (w : World)
    (hu : u.tmod 3 = 2) (ho : ¬ (0 < stn 18 ∧ (a : Int) % stn 18 = 0 ∧ (a : Int) + stn 18 ≤ n)) :
    Calls Try.prog 6 #[.slice p n c, .int .u8 u, .int .u32 a, .int .u32 W] w fun e w' => e = .returned (.bool true) ∧ Below w.heap.size w w' := by
  have C1 := fun w => Store_no p n c 18 a W hn (by omega) (by omega) ho w
  have C3 := fun w => Load_no p n c 13 a hn (by omega) (by omega) (by rw [show ldn 13 = stn 18 by decide]; exact ho) w
  clear ho
  go_enter Try.func6, Try.ntmps6
  go_wp2_with fail
  refine (C1 _).mono ?_
  rintro e w1 ⟨rfl, hw⟩
  subst hw
  go_wp2_with fail
  refine (kloads_2 _).mono ?_
  rintro e w1 ⟨rfl, hw⟩
  subst hw
  go_wp2_with fail
  refine (C3 _).mono ?_
  rintro e w1 ⟨rfl, hw⟩
  subst hw
  go_wp2_with fail
  refine (Store_one _ _ (by simp [go_sem])).mono ?_
  rintro e w2 ⟨⟨h, cap, rfl, hc⟩, hB⟩
  go_wp2_with fail
  go_ret
  exact ⟨rfl, ((((Below.refl _ _).alloc (Nat.le_refl _) _).alloc (by simp) _).alloc (by simp; omega) _ |>.alloc (by simp; omega) _).trans (hB.mono (by simp; omega))⟩

end Go.Proofs.Ytpiohehijkpghaa
