/- What was stored is loaded again, and all other bytes are as they were, where the store can be: walked. -/
import Derived.Test.YtpiohehijkpghaaMemB
namespace Go.Proofs.Ytpiohehijkpghaa
open Go.RowKit
open Hy
set_option linter.unusedVariables false

theorem below_drewN (w : World) (q : Nat) : Below w.heap.size w (w.drewN q) := ⟨rfl, rfl, rfl, Nat.le_refl _, fun _ _ => rfl⟩

theorem keep_draws {w wr : World} {h n g o : Nat} {F f : Nat → Int} (q : Nat) (hF : Fr wr w.heap.size h n F) (hL : Lies wr g o n f) (hB : Below w.heap.size w wr) :
    Fr (wr.drewN q) w.heap.size h n F ∧ Lies (wr.drewN q) g o n f ∧ Below w.heap.size w (wr.drewN q) :=
  ⟨hF.below (below_drewN _ _), hL.below (below_drewN _ _), hB.trans ((below_drewN wr q).mono hB.size)⟩

set_option maxHeartbeats 4000000 in
theorem Back_yes0 (g o n c : Nat) (u : Int) (a m : Nat) (W : Int) (f : Nat → Int) (hM : stn 16 = (m : Int)) (hn : n ≤ 140737488355328) (a1 : a ≤ 4294967295) (h0 : 0 < m) (h1 : a % m = 0) (h2 : a + m ≤ n) (hnc : n ≤ c) (W0 : 0 ≤ W) (W1 : W ≤ 4294967295) (u0 : 0 ≤ u) (u1 : u ≤ 255)
    (w : World) (hu : u.tmod 3 = 0) (hc : Lies w g o n f) :
    Calls Try.prog 6 #[.slice (some ⟨g, o, none⟩) n c, .int .u8 u, .int .u32 a, .int .u32 W] w fun e w' => e = .returned (.bool true) ∧ Below w.heap.size w w' := by
  have C1 := fun w hc => Store_any g o n c 16 a m W f hM hn a1 h0 h1 h2 hnc W0 W1 w hc
  have hV := ld_sto 16 (by omega) f a m W W0 W1 hM
  have C2 := fun h cap w hcap hc => Load_any h 0 n cap 14 a m (fun i => sto f a W m (a + i)) (by rw [← hM]; decide) hn a1 h0 h1 h2 hcap w (fun i hi => by rw [sto_in f a m i W hi]; omega) hc
  rw [show ldv 14 (fun i => sto f a W m (a + i)) = bits .and .u32 W 255 from hV] at C2
  obtain rfl : m = 1 := by simp [stn] at hM; omega
  clear hV hM
  have q1 : (bits .and .u32 W 255 != bits .and .u32 W 255) = false := bne_self_eq_false _
  have q2 : ((n : Int) != (n : Int)) = false := bne_self_eq_false _
  go_enter Try.func6, Try.ntmps6
  go_wp2_with fail
  have hB0 : ∀ o1 o2 o3, Below w.heap.size w (((w.alloc o1).alloc o2).alloc o3) := fun o1 o2 o3 => (((Below.refl _ _).alloc (Nat.le_refl _) _).alloc (by simp) _).alloc (by simp; omega) _
  refine (C1 _ (hc.below (hB0 _ _ _))).mono ?_
  rintro e w1 ⟨⟨h, cap, rfl, hcap, hF⟩, hB1⟩
  have k0 : w1.cell? ⟨w.heap.size + 1, 0, none⟩ = some (.int .u32 255) := by rw [hB1.cell (by simp <;> omega)]; simp [go_sem]
  have hb1 : Below w.heap.size w w1 := (hB0 _ _ _).trans (hB1.mono (by simp <;> omega))
  clear hB1 C1
  go_wp2_with fail
  refine (kloads_0 _).mono ?_
  rintro e w1' ⟨rfl, hw⟩
  subst hw
  go_wp2_with fail
  refine (C2 h cap _ hcap (fun i hi => by rw [Nat.zero_add]; exact hF.cell (a + i) (by omega))).mono ?_
  rintro e w1' ⟨rfl, hw⟩
  subst hw
  clear C2
  go_wp2_with fail
  go_loopw [22] (fun i wr => ∃ k : Nat, k ≤ n ∧ i = .int .i64 k ∧ Fr wr w.heap.size h n (sto f a W 1) ∧ Lies wr g o n f ∧ Below w.heap.size w wr) (fun i _ => n - (intOf i).toNat)
  case atStart => exact ⟨0, by omega, rfl, ⟨Nat.le_trans (by simp; omega) hF.base, hF.lt, hF.cell, hF.free⟩, hc.below hb1, hb1⟩
  case round =>
    obtain ⟨k, hk, rfl, hFr, hLr, hBr⟩ := hrel
    by_cases hlt : k < n
    · obtain ⟨y, hy⟩ : ∃ y, y = f k := ⟨_, rfl⟩
      have c2 := hLr k hlt
      have c1 := hFr.cell k hlt
      rw [← hy] at c2
      have b1 : (k : Int) < (n : Int) := by omega
      by_cases e1 : k < a
      · rw [sto_out f a 1 k W (.inl e1), ← hy] at c1
        have g1 : decide ((k : Int) < (a : Int)) = true := decide_eq_true (by omega)
        have g3 : (y != y) = false := bne_self_eq_false _
        clear hF hc hy
        go_wp2_with fail
        go_quiet (fail)
        go_wp2_with fail
        refine ⟨⟨k + 1, by omega, rfl, keep_draws _ hFr hLr hBr⟩, by simp [intOf]; omega⟩
      · have g1 : decide ((k : Int) < (a : Int)) = false := decide_eq_false (by omega)
        by_cases e2 : a + 1 ≤ k
        · rw [sto_out f a 1 k W (.inr e2), ← hy] at c1
          have g2 : decide ((a : Int) + 1 ≤ (k : Int)) = true := decide_eq_true (by omega)
          have g3 : (y != y) = false := bne_self_eq_false _
          clear hF hc hy
          go_wp2_with fail
          go_quiet (fail)
          go_wp2_with fail
          refine ⟨⟨k + 1, by omega, rfl, keep_draws _ hFr hLr hBr⟩, by simp [intOf]; omega⟩
        · have g2 : decide ((a : Int) + 1 ≤ (k : Int)) = false := decide_eq_false (by omega)
          clear hF hc hy
          go_wp2_with fail
          go_quiet (fail)
          go_wp2_with fail
          refine ⟨⟨k + 1, by omega, rfl, keep_draws _ hFr hLr hBr⟩, by simp [intOf]; omega⟩
    · go_wp2_with fail
      go_ret
      exact ⟨rfl, hBr⟩

set_option maxHeartbeats 4000000 in
theorem Back_yes1 (g o n c : Nat) (u : Int) (a m : Nat) (W : Int) (f : Nat → Int) (hM : stn 17 = (m : Int)) (hn : n ≤ 140737488355328) (a1 : a ≤ 4294967295) (h0 : 0 < m) (h1 : a % m = 0) (h2 : a + m ≤ n) (hnc : n ≤ c) (W0 : 0 ≤ W) (W1 : W ≤ 4294967295) (u0 : 0 ≤ u) (u1 : u ≤ 255)
    (w : World) (hu : u.tmod 3 = 1) (hc : Lies w g o n f) :
    Calls Try.prog 6 #[.slice (some ⟨g, o, none⟩) n c, .int .u8 u, .int .u32 a, .int .u32 W] w fun e w' => e = .returned (.bool true) ∧ Below w.heap.size w w' := by
  have C1 := fun w hc => Store_any g o n c 17 a m W f hM hn a1 h0 h1 h2 hnc W0 W1 w hc
  have hV := ld_sto 17 (by omega) f a m W W0 W1 hM
  have C2 := fun h cap w hcap hc => Load_any h 0 n cap 15 a m (fun i => sto f a W m (a + i)) (by rw [← hM]; decide) hn a1 h0 h1 h2 hcap w (fun i hi => by rw [sto_in f a m i W hi]; omega) hc
  rw [show ldv 15 (fun i => sto f a W m (a + i)) = bits .and .u32 W 65535 from hV] at C2
  obtain rfl : m = 2 := by simp [stn] at hM; omega
  clear hV hM
  have q1 : (bits .and .u32 W 65535 != bits .and .u32 W 65535) = false := bne_self_eq_false _
  have q2 : ((n : Int) != (n : Int)) = false := bne_self_eq_false _
  go_enter Try.func6, Try.ntmps6
  go_wp2_with fail
  have hB0 : ∀ o1 o2 o3, Below w.heap.size w (((w.alloc o1).alloc o2).alloc o3) := fun o1 o2 o3 => (((Below.refl _ _).alloc (Nat.le_refl _) _).alloc (by simp) _).alloc (by simp; omega) _
  refine (C1 _ (hc.below (hB0 _ _ _))).mono ?_
  rintro e w1 ⟨⟨h, cap, rfl, hcap, hF⟩, hB1⟩
  have k0 : w1.cell? ⟨w.heap.size + 1, 1, none⟩ = some (.int .u32 65535) := by rw [hB1.cell (by simp <;> omega)]; simp [go_sem]
  have hb1 : Below w.heap.size w w1 := (hB0 _ _ _).trans (hB1.mono (by simp <;> omega))
  clear hB1 C1
  go_wp2_with fail
  refine (kloads_1 _).mono ?_
  rintro e w1' ⟨rfl, hw⟩
  subst hw
  go_wp2_with fail
  refine (C2 h cap _ hcap (fun i hi => by rw [Nat.zero_add]; exact hF.cell (a + i) (by omega))).mono ?_
  rintro e w1' ⟨rfl, hw⟩
  subst hw
  clear C2
  go_wp2_with fail
  go_loopw [22] (fun i wr => ∃ k : Nat, k ≤ n ∧ i = .int .i64 k ∧ Fr wr w.heap.size h n (sto f a W 2) ∧ Lies wr g o n f ∧ Below w.heap.size w wr) (fun i _ => n - (intOf i).toNat)
  case atStart => exact ⟨0, by omega, rfl, ⟨Nat.le_trans (by simp; omega) hF.base, hF.lt, hF.cell, hF.free⟩, hc.below hb1, hb1⟩
  case round =>
    obtain ⟨k, hk, rfl, hFr, hLr, hBr⟩ := hrel
    by_cases hlt : k < n
    · obtain ⟨y, hy⟩ : ∃ y, y = f k := ⟨_, rfl⟩
      have c2 := hLr k hlt
      have c1 := hFr.cell k hlt
      rw [← hy] at c2
      have b1 : (k : Int) < (n : Int) := by omega
      by_cases e1 : k < a
      · rw [sto_out f a 2 k W (.inl e1), ← hy] at c1
        have g1 : decide ((k : Int) < (a : Int)) = true := decide_eq_true (by omega)
        have g3 : (y != y) = false := bne_self_eq_false _
        clear hF hc hy
        go_wp2_with fail
        go_quiet (fail)
        go_wp2_with fail
        refine ⟨⟨k + 1, by omega, rfl, keep_draws _ hFr hLr hBr⟩, by simp [intOf]; omega⟩
      · have g1 : decide ((k : Int) < (a : Int)) = false := decide_eq_false (by omega)
        by_cases e2 : a + 2 ≤ k
        · rw [sto_out f a 2 k W (.inr e2), ← hy] at c1
          have g2 : decide ((a : Int) + 2 ≤ (k : Int)) = true := decide_eq_true (by omega)
          have g3 : (y != y) = false := bne_self_eq_false _
          clear hF hc hy
          go_wp2_with fail
          go_quiet (fail)
          go_wp2_with fail
          refine ⟨⟨k + 1, by omega, rfl, keep_draws _ hFr hLr hBr⟩, by simp [intOf]; omega⟩
        · have g2 : decide ((a : Int) + 2 ≤ (k : Int)) = false := decide_eq_false (by omega)
          clear hF hc hy
          go_wp2_with fail
          go_quiet (fail)
          go_wp2_with fail
          refine ⟨⟨k + 1, by omega, rfl, keep_draws _ hFr hLr hBr⟩, by simp [intOf]; omega⟩
    · go_wp2_with fail
      go_ret
      exact ⟨rfl, hBr⟩

set_option maxHeartbeats 4000000 in
theorem Back_yes2 (g o n c : Nat) (u : Int) (a m : Nat) (W : Int) (f : Nat → Int) (hM : stn 18 = (m : Int)) (hn : n ≤ 140737488355328) (a1 : a ≤ 4294967295) (h0 : 0 < m) (h1 : a % m = 0) (h2 : a + m ≤ n) (hnc : n ≤ c) (W0 : 0 ≤ W) (W1 : W ≤ 4294967295) (u0 : 0 ≤ u) (u1 : u ≤ 255)
    (w : World) (hu : u.tmod 3 = 2) (hc : Lies w g o n f) :
    Calls Try.prog 6 #[.slice (some ⟨g, o, none⟩) n c, .int .u8 u, .int .u32 a, .int .u32 W] w fun e w' => e = .returned (.bool true) ∧ Below w.heap.size w w' := by
  have C1 := fun w hc => Store_any g o n c 18 a m W f hM hn a1 h0 h1 h2 hnc W0 W1 w hc
  have hV := ld_sto 18 (by omega) f a m W W0 W1 hM
  have C2 := fun h cap w hcap hc => Load_any h 0 n cap 13 a m (fun i => sto f a W m (a + i)) (by rw [← hM]; decide) hn a1 h0 h1 h2 hcap w (fun i hi => by rw [sto_in f a m i W hi]; omega) hc
  rw [show ldv 13 (fun i => sto f a W m (a + i)) = bits .and .u32 W 4294967295 from hV] at C2
  obtain rfl : m = 4 := by simp [stn] at hM; omega
  clear hV hM
  have q1 : (bits .and .u32 W 4294967295 != bits .and .u32 W 4294967295) = false := bne_self_eq_false _
  have q2 : ((n : Int) != (n : Int)) = false := bne_self_eq_false _
  go_enter Try.func6, Try.ntmps6
  go_wp2_with fail
  have hB0 : ∀ o1 o2 o3, Below w.heap.size w (((w.alloc o1).alloc o2).alloc o3) := fun o1 o2 o3 => (((Below.refl _ _).alloc (Nat.le_refl _) _).alloc (by simp) _).alloc (by simp; omega) _
  refine (C1 _ (hc.below (hB0 _ _ _))).mono ?_
  rintro e w1 ⟨⟨h, cap, rfl, hcap, hF⟩, hB1⟩
  have k0 : w1.cell? ⟨w.heap.size + 1, 2, none⟩ = some (.int .u32 4294967295) := by rw [hB1.cell (by simp <;> omega)]; simp [go_sem]
  have hb1 : Below w.heap.size w w1 := (hB0 _ _ _).trans (hB1.mono (by simp <;> omega))
  clear hB1 C1
  go_wp2_with fail
  refine (kloads_2 _).mono ?_
  rintro e w1' ⟨rfl, hw⟩
  subst hw
  go_wp2_with fail
  refine (C2 h cap _ hcap (fun i hi => by rw [Nat.zero_add]; exact hF.cell (a + i) (by omega))).mono ?_
  rintro e w1' ⟨rfl, hw⟩
  subst hw
  clear C2
  go_wp2_with fail
  go_loopw [22] (fun i wr => ∃ k : Nat, k ≤ n ∧ i = .int .i64 k ∧ Fr wr w.heap.size h n (sto f a W 4) ∧ Lies wr g o n f ∧ Below w.heap.size w wr) (fun i _ => n - (intOf i).toNat)
  case atStart => exact ⟨0, by omega, rfl, ⟨Nat.le_trans (by simp; omega) hF.base, hF.lt, hF.cell, hF.free⟩, hc.below hb1, hb1⟩
  case round =>
    obtain ⟨k, hk, rfl, hFr, hLr, hBr⟩ := hrel
    by_cases hlt : k < n
    · obtain ⟨y, hy⟩ : ∃ y, y = f k := ⟨_, rfl⟩
      have c2 := hLr k hlt
      have c1 := hFr.cell k hlt
      rw [← hy] at c2
      have b1 : (k : Int) < (n : Int) := by omega
      by_cases e1 : k < a
      · rw [sto_out f a 4 k W (.inl e1), ← hy] at c1
        have g1 : decide ((k : Int) < (a : Int)) = true := decide_eq_true (by omega)
        have g3 : (y != y) = false := bne_self_eq_false _
        clear hF hc hy
        go_wp2_with fail
        go_quiet (fail)
        go_wp2_with fail
        refine ⟨⟨k + 1, by omega, rfl, keep_draws _ hFr hLr hBr⟩, by simp [intOf]; omega⟩
      · have g1 : decide ((k : Int) < (a : Int)) = false := decide_eq_false (by omega)
        by_cases e2 : a + 4 ≤ k
        · rw [sto_out f a 4 k W (.inr e2), ← hy] at c1
          have g2 : decide ((a : Int) + 4 ≤ (k : Int)) = true := decide_eq_true (by omega)
          have g3 : (y != y) = false := bne_self_eq_false _
          clear hF hc hy
          go_wp2_with fail
          go_quiet (fail)
          go_wp2_with fail
          refine ⟨⟨k + 1, by omega, rfl, keep_draws _ hFr hLr hBr⟩, by simp [intOf]; omega⟩
        · have g2 : decide ((a : Int) + 4 ≤ (k : Int)) = false := decide_eq_false (by omega)
          clear hF hc hy
          go_wp2_with fail
          go_quiet (fail)
          go_wp2_with fail
          refine ⟨⟨k + 1, by omega, rfl, keep_draws _ hFr hLr hBr⟩, by simp [intOf]; omega⟩
    · go_wp2_with fail
      go_ret
      exact ⟨rfl, hBr⟩

theorem Back (p : Option Addr) (n c : Nat) (u a W : Int) (xs : List Int) (hnc : n ≤ c) (hn : n ≤ 140737488355328) (u0 : 0 ≤ u) (u1 : u ≤ 255) (a0 : 0 ≤ a) (a1 : a ≤ 4294967295) (W0 : 0 ≤ W) (W1 : W ≤ 4294967295) (w : World) (h : Lib.BytesIn w p n xs) :
    Calls Try.prog 6 #[.slice p n c, .int .u8 u, .int .u32 a, .int .u32 W] w fun e w' => e = .returned (.bool true) ∧ Below w.heap.size w w' := by
  obtain ⟨k, rfl⟩ := Int.eq_ofNat_of_zero_le a0
  have hu : u.tmod 3 = u % 3 := Int.tmod_eq_emod_of_nonneg u0
  rcases (by omega : u % 3 = 0 ∨ u % 3 = 1 ∨ u % 3 = 2) with e | e | e
  · rw [e] at hu
    by_cases ho : 0 < stn 16 ∧ (k : Int) % stn 16 = 0 ∧ (k : Int) + stn 16 ≤ n
    · rw [show stn 16 = 1 by decide] at ho
      obtain ⟨g, o, rfl, hc⟩ := h.at (by omega)
      exact Back_yes0 g o n c u k 1 W (fun i => xs.getD i 0) (by decide) hn (by omega) (by omega) (by omega) (by omega) hnc W0 W1 u0 u1 w hu hc
    · exact Back_no0 p n c u k W hn (by omega) u0 u1 w hu ho
  · rw [e] at hu
    by_cases ho : 0 < stn 17 ∧ (k : Int) % stn 17 = 0 ∧ (k : Int) + stn 17 ≤ n
    · rw [show stn 17 = 2 by decide] at ho
      obtain ⟨g, o, rfl, hc⟩ := h.at (by omega)
      exact Back_yes1 g o n c u k 2 W (fun i => xs.getD i 0) (by decide) hn (by omega) (by omega) (by omega) (by omega) hnc W0 W1 u0 u1 w hu hc
    · exact Back_no1 p n c u k W hn (by omega) u0 u1 w hu ho
  · rw [e] at hu
    by_cases ho : 0 < stn 18 ∧ (k : Int) % stn 18 = 0 ∧ (k : Int) + stn 18 ≤ n
    · rw [show stn 18 = 4 by decide] at ho
      obtain ⟨g, o, rfl, hc⟩ := h.at (by omega)
      exact Back_yes2 g o n c u k 4 W (fun i => xs.getD i 0) (by decide) hn (by omega) (by omega) (by omega) (by omega) hnc W0 W1 u0 u1 w hu hc
    · exact Back_no2 p n c u k W hn (by omega) u0 u1 w hu ho
end Go.Proofs.Ytpiohehijkpghaa
