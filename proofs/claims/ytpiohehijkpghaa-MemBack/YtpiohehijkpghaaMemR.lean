/- What the document's reckoning of a load comes to. -/
import Derived.Test.YtpiohehijkpghaaMemG
import Derived.Test.YtpiohehijkpghaaRef1
namespace Go.Proofs.Ytpiohehijkpghaa
open Go.RowKit
open Hy
set_option linter.unusedVariables false

theorem tLoad_no (p : Option Addr) (n c : Nat) (op a : Int) (hn : n ≤ 140737488355328) (a0 : 0 ≤ a) (a1 : a ≤ 4294967295) (h : ¬ (0 < ldn op ∧ a % ldn op = 0 ∧ a + ldn op ≤ n)) (w : World) :
    Calls Try.prog 13 #[.slice p n c, .int .i64 op, .int .u32 a] w fun e w' => e = .returned (.tuple #[.int .u32 0, .bool false]) ∧ w' = w := by
  have hd : decide (0 < ldn op ∧ a % ldn op = 0 ∧ a + ldn op ≤ n) = false := decide_eq_false h
  have hm := ldn_cases op
  obtain ⟨m, hM⟩ : ∃ m, m = ldn op := ⟨_, rfl⟩
  have C1 := tSize_load op
  rw [← hM] at hd hm C1
  have C2 := fun w => there_any p n c a m hn a0 a1 hm w
  rw [hd] at C2
  clear hM h hd hm
  go_enter Try.func13, Try.ntmps13
  go_wp2_with fail
  refine (C1 _).mono ?_
  rintro e w' ⟨rfl, rfl⟩
  go_wp2_with fail
  refine (C2 _).mono ?_
  rintro e w' ⟨rfl, rfl⟩
  go_wp2_with fail
  go_ret2
  exact ⟨rfl, rfl⟩

/-- A power of 256. -/
def p256 : Nat → Int
  | 0 => 1
  | 1 => 256
  | 2 => 65536
  | 3 => 16777216
  | _ => 4294967296

theorem le_rng (f : Nat → Int) (j : Nat) (hj : j ≤ 4) (hf : ∀ i, i < j → 0 ≤ f i ∧ f i ≤ 255) : 0 ≤ le f j ∧ le f j ≤ p256 j - 1 := by
  rcases (by omega : j = 0 ∨ j = 1 ∨ j = 2 ∨ j = 3 ∨ j = 4) with rfl | rfl | rfl | rfl | rfl
  · exact ⟨Int.le_refl 0, by show (0 : Int) ≤ 1 - 1; omega⟩
  · have h0 := hf 0 (by omega)
    show 0 ≤ f 0 ∧ f 0 ≤ 256 - 1
    omega
  · have h0 := hf 0 (by omega)
    have h1 := hf 1 (by omega)
    show 0 ≤ f 0 + f 1 * 256 ∧ f 0 + f 1 * 256 ≤ 65536 - 1
    omega
  · have h0 := hf 0 (by omega)
    have h1 := hf 1 (by omega)
    have h2 := hf 2 (by omega)
    show 0 ≤ f 0 + f 1 * 256 + f 2 * 65536 ∧ f 0 + f 1 * 256 + f 2 * 65536 ≤ 16777216 - 1
    omega
  · have h0 := hf 0 (by omega)
    have h1 := hf 1 (by omega)
    have h2 := hf 2 (by omega)
    have h3 := hf 3 (by omega)
    show 0 ≤ f 0 + f 1 * 256 + f 2 * 65536 + f 3 * 16777216 ∧ f 0 + f 1 * 256 + f 2 * 65536 + f 3 * 16777216 ≤ 4294967296 - 1
    omega
theorem le_succ0 (f : Nat → Int) : le f 1 = le f 0 + f 0 := by show f 0 = 0 + f 0; omega
theorem le_succ1 (f : Nat → Int) : le f 2 = le f 1 + f 1 * 256 := rfl
theorem le_succ2 (f : Nat → Int) : le f 3 = le f 2 + f 2 * 65536 := rfl
theorem le_succ3 (f : Nat → Int) : le f 4 = le f 3 + f 3 * 16777216 := rfl

set_option maxHeartbeats 1000000 in
theorem tLoad_any (g o n c : Nat) (op : Int) (a m : Nat) (f : Nat → Int) (hM : ldn op = (m : Int)) (hn : n ≤ 140737488355328) (a1 : a ≤ 4294967295) (h0 : 0 < m) (h1 : a % m = 0) (h2 : a + m ≤ n) (hnc : n ≤ c) (w : World)
    (hf : ∀ i, i < m → 0 ≤ f i ∧ f i ≤ 255) (hc : Lies w g (o + a) m f) :
    Calls Try.prog 13 #[.slice (some ⟨g, o, none⟩) n c, .int .i64 op, .int .u32 a] w fun e w' => e = .returned (.tuple #[.int .u32 (ldv op f), .bool true]) ∧ w' = w := by
  have hm' := ldn_cases op
  have hm : m = 1 ∨ m = 2 ∨ m = 4 := by omega
  have C1 := tSize_load op
  rw [hM] at C1 hm'
  have C2 := fun w => there_any (some ⟨g, o, none⟩) n c a m hn (by omega) (by omega) hm' w
  have hd : decide (0 < (m : Int) ∧ (a : Int) % m = 0 ∧ (a : Int) + m ≤ n) = true := decide_eq_true ⟨by omega, by omega, by omega⟩
  rw [hd] at C2
  clear hd hm'
  go_enter Try.func13, Try.ntmps13
  go_wp2_with fail
  refine (C1 _).mono ?_
  rintro e w' ⟨rfl, rfl⟩
  go_wp2_with fail
  refine (C2 _).mono ?_
  rintro e w' ⟨rfl, rfl⟩
  clear C1 C2
  go_wp2_with fail
  go_loop [9, 10, 11] (fun t q k => ∃ j : Nat, j ≤ m ∧ k = .int .i64 j ∧ t = .int .i64 (le f j) ∧ q = .int .i64 (p256 j)) (fun _ _ k => m - (intOf k).toNat)
  case atStart => exact ⟨0, by omega, rfl, rfl, rfl⟩
  case round =>
    obtain ⟨j, hj, rfl, rfl, rfl⟩ := hrel
    obtain ⟨T, hT⟩ : ∃ T, T = le f j := ⟨_, rfl⟩
    have HT : Hid (T = le f j) := hT
    rw [← hT]
    clear hT
    by_cases hlt : j < m
    · rcases (by omega : j = 0 ∨ j = 1 ∨ j = 2 ∨ j = 3) with rfl | rfl | rfl | rfl
      · obtain ⟨z, hz⟩ : ∃ z, z = f 0 := ⟨_, rfl⟩
        have c0 : w'.cell? ⟨g, o + a, none⟩ = some (.int .u8 (f 0)) := hc 0 (by omega)
        have b0 := hf 0 (by omega)
        rw [← hz] at c0 b0
        have hA : Hid (z = f 0) := hz
        have tb : 0 ≤ T ∧ T ≤ 0 := by rw [HT.out]; exact le_rng f 0 (by omega) (fun i hi => hf i (by omega))
        have HF : Hid (∀ i, i < m → 0 ≤ f i ∧ f i ≤ 255) := hf
        rw [show p256 0 = 1 from rfl]
        clear hc hf hz
        go_wp2
        go_round
        case rel => exact ⟨1, by omega, by go_num, int_eq (by rw [le_succ0, ← HT.out, ← hA.out]), rfl⟩
        case measure => simp [intOf]; omega
      · obtain ⟨z, hz⟩ : ∃ z, z = f 1 := ⟨_, rfl⟩
        have c0 : w'.cell? ⟨g, o + (a + 1), none⟩ = some (.int .u8 (f 1)) := by have h := hc 1 (by omega); rw [Nat.add_assoc] at h; exact h
        have b0 := hf 1 (by omega)
        rw [← hz] at c0 b0
        have hA : Hid (z = f 1) := hz
        have tb : 0 ≤ T ∧ T ≤ 255 := by rw [HT.out]; exact le_rng f 1 (by omega) (fun i hi => hf i (by omega))
        have HF : Hid (∀ i, i < m → 0 ≤ f i ∧ f i ≤ 255) := hf
        rw [show p256 1 = 256 from rfl]
        clear hc hf hz
        go_wp2
        go_round
        case rel => exact ⟨2, by omega, by go_num, int_eq (by rw [le_succ1, ← HT.out, ← hA.out]), rfl⟩
        case measure => simp [intOf]; omega
      · obtain ⟨z, hz⟩ : ∃ z, z = f 2 := ⟨_, rfl⟩
        have c0 : w'.cell? ⟨g, o + (a + 2), none⟩ = some (.int .u8 (f 2)) := by have h := hc 2 (by omega); rw [Nat.add_assoc] at h; exact h
        have b0 := hf 2 (by omega)
        rw [← hz] at c0 b0
        have hA : Hid (z = f 2) := hz
        have tb : 0 ≤ T ∧ T ≤ 65535 := by rw [HT.out]; exact le_rng f 2 (by omega) (fun i hi => hf i (by omega))
        have HF : Hid (∀ i, i < m → 0 ≤ f i ∧ f i ≤ 255) := hf
        rw [show p256 2 = 65536 from rfl]
        clear hc hf hz
        go_wp2
        go_round
        case rel => exact ⟨3, by omega, by go_num, int_eq (by rw [le_succ2, ← HT.out, ← hA.out]), rfl⟩
        case measure => simp [intOf]; omega
      · obtain ⟨z, hz⟩ : ∃ z, z = f 3 := ⟨_, rfl⟩
        have c0 : w'.cell? ⟨g, o + (a + 3), none⟩ = some (.int .u8 (f 3)) := by have h := hc 3 (by omega); rw [Nat.add_assoc] at h; exact h
        have b0 := hf 3 (by omega)
        rw [← hz] at c0 b0
        have hA : Hid (z = f 3) := hz
        have tb : 0 ≤ T ∧ T ≤ 16777215 := by rw [HT.out]; exact le_rng f 3 (by omega) (fun i hi => hf i (by omega))
        have HF : Hid (∀ i, i < m → 0 ≤ f i ∧ f i ≤ 255) := hf
        rw [show p256 3 = 16777216 from rfl]
        clear hc hf hz
        go_wp2
        go_round
        case rel => exact ⟨4, by omega, by go_num, int_eq (by rw [le_succ3, ← HT.out, ← hA.out]), rfl⟩
        case measure => simp [intOf]; omega
    · obtain rfl : j = m := by omega
      have tb := le_rng f j (by omega) hf
      rw [← HT.out] at tb
      by_cases e1 : op = 11
      · obtain rfl : j = 1 := by subst e1; simp [ldn] at hM; omega
        have hl : T = f 0 := HT.out
        rw [show p256 1 = 256 from rfl] at tb ⊢
        have HV : Hid (ldv op f = if T < 128 then T else T + 4294967040) := by show ldv op f = _; rw [hl, ldv, if_pos e1]
        clear hl hf HT hc
        by_cases hs : T < 128
        · rw [if_pos hs] at HV
          have hO : T % 4294967296 = T := by omega
          have C := rOf_any T w'
          rw [hO] at C
          clear hO
          have q : decide (128 ≤ T) = false := decide_eq_false (by omega)
          go_wp2_with fail
          refine C.mono ?_
          rintro e w' ⟨rfl, rfl⟩
          go_wp2_with fail
          go_ret2
          exact ⟨ret_ub HV.out.symm true, rfl⟩
        · rw [if_neg hs] at HV
          have hO : (T - 256) % 4294967296 = T + 4294967040 := by omega
          have C := rOf_any (T - 256) w'
          rw [hO] at C
          clear hO
          have q : decide (128 ≤ T) = true := decide_eq_true (by omega)
          go_wp2_with fail
          refine C.mono ?_
          rintro e w' ⟨rfl, rfl⟩
          go_wp2_with fail
          go_ret2
          exact ⟨ret_ub HV.out.symm true, rfl⟩
      · by_cases e2 : op = 12
        · obtain rfl : j = 2 := by subst e2; simp [ldn] at hM; omega
          have hl : T = le f 2 := HT.out
          rw [show p256 2 = 65536 from rfl] at tb ⊢
          have HV : Hid (ldv op f = if T < 32768 then T else T + 4294901760) := by show ldv op f = _; rw [hl, ldv, if_neg e1, if_pos e2]
          clear hl hf HT hc
          by_cases hs : T < 32768
          · rw [if_pos hs] at HV
            have hO : T % 4294967296 = T := by omega
            have C := rOf_any T w'
            rw [hO] at C
            clear hO
            have q : decide (32768 ≤ T) = false := decide_eq_false (by omega)
            go_wp2_with fail
            refine C.mono ?_
            rintro e w' ⟨rfl, rfl⟩
            go_wp2_with fail
            go_ret2
            exact ⟨ret_ub HV.out.symm true, rfl⟩
          · rw [if_neg hs] at HV
            have hO : (T - 65536) % 4294967296 = T + 4294901760 := by omega
            have C := rOf_any (T - 65536) w'
            rw [hO] at C
            clear hO
            have q : decide (32768 ≤ T) = true := decide_eq_true (by omega)
            go_wp2_with fail
            refine C.mono ?_
            rintro e w' ⟨rfl, rfl⟩
            go_wp2_with fail
            go_ret2
            exact ⟨ret_ub HV.out.symm true, rfl⟩
        · have HV : Hid (ldv op f = T) := by
            show ldv op f = T
            rw [HT.out, ldv, if_neg e1, if_neg e2, hM]; rfl
          have tb' : T ≤ 4294967295 := by
            rcases hm with h | h | h
            all_goals (subst h; have t2 := tb.2; simp only [p256] at t2; omega)
          have hO : T % 4294967296 = T := by omega
          have C := rOf_any T w'
          rw [hO] at C
          clear hO
          have q1 : (op == 11) = false := beq_eq_false_iff_ne.2 e1
          have q2 : (op == 12) = false := beq_eq_false_iff_ne.2 e2
          clear HT hf hM hc
          go_wp2_with fail
          refine C.mono ?_
          rintro e w' ⟨rfl, rfl⟩
          go_wp2_with fail
          go_ret2
          exact ⟨ret_ub HV.out.symm true, rfl⟩
end Go.Proofs.Ytpiohehijkpghaa
