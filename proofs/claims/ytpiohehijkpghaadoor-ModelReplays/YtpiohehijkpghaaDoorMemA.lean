/- What the small functions of package mem, and of the document's reckoning of bytes, come to. -/
import Derived.Test.YtpiohehijkpghaaDoorRows
import Derived.Test.YtpiohehijkpghaaDoorDecX
import Derived.WalkKit
import Derived.WalkSpells
import Derived.WalkLawsBesides
import Derived.Laws.BitsAllLaws
import Derived.Laws.Bits64
import Derived.Below
import Derived.Test.YtpiohehijkpghaaDoorRef1
import Derived.Test.YtpiohehijkpghaaDoorMath
namespace Go.Proofs.YtpiohehijkpghaaDoor
open Go.RowKit
open Hy
set_option linter.unusedVariables false

/-- How many bytes a load asks for; 0: it is none. -/
def ldn (op : Int) : Int := if op = 11 ∨ op = 14 then 1 else if op = 12 ∨ op = 15 then 2 else if op = 13 then 4 else 0
/-- How many bytes a store lays; 0: it is none. -/
def stn (op : Int) : Int := if op = 16 then 1 else if op = 17 then 2 else if op = 18 then 4 else 0

theorem ldn_cases (op : Int) : ldn op = 0 ∨ ldn op = 1 ∨ ldn op = 2 ∨ ldn op = 4 := by unfold ldn; split <;> (try split) <;> (try split) <;> omega
theorem stn_cases (op : Int) : stn op = 0 ∨ stn op = 1 ∨ stn op = 2 ∨ stn op = 4 := by unfold stn; split <;> (try split) <;> (try split) <;> omega

theorem loaded_any (op : Int) (w : World) :
    Calls Tryd.prog 61 #[.int .i64 op] w fun e w' => e = .returned (.int .u32 (ldn op)) ∧ w' = w := by
  go_enter Tryd.func61, Tryd.ntmps61
  go_wp2
  all_goals (go_ret; refine ⟨?_, rfl⟩; simp_all [ldn])

theorem stored_any (op : Int) (w : World) :
    Calls Tryd.prog 75 #[.int .i64 op] w fun e w' => e = .returned (.int .u32 (stn op)) ∧ w' = w := by
  go_enter Tryd.func75, Tryd.ntmps75
  go_wp2
  all_goals (go_ret; refine ⟨?_, rfl⟩; simp_all [stn])

theorem tSize_load (op : Int) (w : World) :
    Calls Tryd.prog 42 #[.int .i64 op, .bool false] w fun e w' => e = .returned (.int .i64 (ldn op)) ∧ w' = w := by
  go_enter Tryd.func42, Tryd.ntmps42
  go_wp2
  all_goals (go_ret; refine ⟨?_, rfl⟩; simp_all [ldn])

theorem tSize_store (op : Int) (w : World) :
    Calls Tryd.prog 42 #[.int .i64 op, .bool true] w fun e w' => e = .returned (.int .i64 (stn op)) ∧ w' = w := by
  go_enter Tryd.func42, Tryd.ntmps42
  go_wp2
  all_goals (go_ret; refine ⟨?_, rfl⟩; simp_all [stn])

theorem stands_any (p : Option Addr) (n c : Nat) (a m : Int) (hn : n ≤ 140737488355328) (a0 : 0 ≤ a) (a1 : a ≤ 4294967295) (hm : m = 0 ∨ m = 1 ∨ m = 2 ∨ m = 4) (w : World) :
    Calls Tryd.prog 62 #[.slice p n c, .int .u32 a, .int .u32 m] w fun e w' => e = .returned (.bool (decide (0 < m ∧ a % m = 0 ∧ a + m ≤ n))) ∧ w' = w := by
  rcases hm with rfl | rfl | rfl | rfl
  all_goals go_enter Tryd.func62, Tryd.ntmps62
  all_goals go_wp2
  all_goals (go_ret; refine ⟨?_, rfl⟩; simp; try omega)

theorem there_any (p : Option Addr) (n c : Nat) (a m : Int) (hn : n ≤ 140737488355328) (a0 : 0 ≤ a) (a1 : a ≤ 4294967295) (hm : m = 0 ∨ m = 1 ∨ m = 2 ∨ m = 4) (w : World) :
    Calls Tryd.prog 56 #[.slice p n c, .int .u32 a, .int .i64 m] w fun e w' => e = .returned (.bool (decide (0 < m ∧ a % m = 0 ∧ a + m ≤ n))) ∧ w' = w := by
  rcases hm with rfl | rfl | rfl | rfl
  all_goals go_enter Tryd.func56, Tryd.ntmps56
  all_goals go_wp2
  all_goals (go_ret; refine ⟨?_, rfl⟩; simp; try omega)
end Go.Proofs.YtpiohehijkpghaaDoor
namespace Go.Proofs.YtpiohehijkpghaaDoor
open Go.RowKit
open Hy
set_option linter.unusedVariables false

/-- The number of the first bytes. -/
def le (f : Nat → Int) : Nat → Int
  | 0 => 0
  | 1 => f 0
  | 2 => f 0 + f 1 * 256
  | 3 => f 0 + f 1 * 256 + f 2 * 65536
  | _ => f 0 + f 1 * 256 + f 2 * 65536 + f 3 * 16777216

theorem or_add (i : Nat) (P a b : Int) (hP : P = ((2 ^ i : Nat) : Int)) (hi : i ≤ 32) (a0 : 0 ≤ a) (a1 : a < P) (b0 : 0 ≤ b) (b1 : b < 4294967296) (hb : b % P = 0) : bits .or .u32 a b = a + b := by
  have hle : P ≤ 4294967296 := by
    subst hP
    have : 2 ^ i ≤ 2 ^ 32 := Nat.pow_le_pow_right (by omega) hi
    omega
  exact or_slot i 32 hi P 4294967296 a b hP rfl a0 (by omega) (by rw [Int.emod_eq_of_lt a0 (by omega)]; exact a1) b0 b1 b1 hb

theorem le_step0 (f : Nat → Int) (b0 : 0 ≤ f 0 ∧ f 0 ≤ 255) : bits .or .u32 (le f 0) (f 0) = le f 1 := by
  show bits .or .u32 0 (f 0) = f 0
  rw [or_add 0 1 0 (f 0) rfl (by omega) (by omega) (by omega) b0.1 (by omega) (by omega)]
  omega
theorem le_step1 (f : Nat → Int) (b0 : 0 ≤ f 0 ∧ f 0 ≤ 255) (b1 : 0 ≤ f 1 ∧ f 1 ≤ 255) : bits .or .u32 (le f 1) (f 1 * 256) = le f 2 :=
  or_add 8 256 (f 0) (f 1 * 256) rfl (by omega) b0.1 (by omega) (by omega) (by omega) (by omega)
theorem le_step2 (f : Nat → Int) (b0 : 0 ≤ f 0 ∧ f 0 ≤ 255) (b1 : 0 ≤ f 1 ∧ f 1 ≤ 255) (b2 : 0 ≤ f 2 ∧ f 2 ≤ 255) : bits .or .u32 (le f 2) (f 2 * 65536) = le f 3 :=
  or_add 16 65536 (f 0 + f 1 * 256) (f 2 * 65536) rfl (by omega) (by omega) (by omega) (by omega) (by omega) (by omega)
theorem le_step3 (f : Nat → Int) (b0 : 0 ≤ f 0 ∧ f 0 ≤ 255) (b1 : 0 ≤ f 1 ∧ f 1 ≤ 255) (b2 : 0 ≤ f 2 ∧ f 2 ≤ 255) (b3 : 0 ≤ f 3 ∧ f 3 ≤ 255) : bits .or .u32 (le f 3) (f 3 * 16777216) = le f 4 :=
  or_add 24 16777216 (f 0 + f 1 * 256 + f 2 * 65536) (f 3 * 16777216) rfl (by omega) (by omega) (by omega) (by omega) (by omega) (by omega)

theorem ret_ub {a b : Int} (h : a = b) (c : Bool) : Ending.returned (.tuple #[.int .u32 a, .bool c]) = .returned (.tuple #[.int .u32 b, .bool c]) := by rw [h]
theorem int_eq {k : IntKind} {a b : Int} (h : a = b) : Value.int k a = Value.int k b := by rw [h]

set_option maxHeartbeats 1000000 in
theorem gather_any (g o n c : Nat) (m : Nat) (f : Nat → Int) (hm : m = 1 ∨ m = 2 ∨ m = 4) (hmn : m ≤ n) (hn : n ≤ 140737488355328) (hf : ∀ i, i < m → 0 ≤ f i ∧ f i ≤ 255) (w : World) (hc : ∀ i, i < m → w.cell? ⟨g, o + i, none⟩ = some (.int .u8 (f i))) :
    Calls Tryd.prog 63 #[.slice (some ⟨g, o, none⟩) n c, .int .u32 m] w fun e w' => e = .returned (.int .u32 (le f m)) ∧ w' = w := by
  go_enter Tryd.func63, Tryd.ntmps63
  go_wp2
  go_loop [5, 6, 8] (fun t i k => ∃ j : Nat, j ≤ m ∧ k = .int .u32 j ∧ t = .int .u32 (le f j)) (fun _ _ k => m - (intOf k).toNat)
  case atStart => exact ⟨0, by omega, rfl, rfl⟩
  case round =>
    obtain ⟨j, hj, rfl, rfl⟩ := hrel
    obtain ⟨T, hT⟩ : ∃ T, T = le f j := ⟨_, rfl⟩
    have HT : Hid (T = le f j) := hT
    rw [← hT]
    clear hT
    by_cases hlt : j < m
    · rcases (by omega : j = 0 ∨ j = 1 ∨ j = 2 ∨ j = 3) with rfl | rfl | rfl | rfl
      · obtain ⟨z, hz⟩ : ∃ z, z = f 0 := ⟨_, rfl⟩
        have c0 : w.cell? ⟨g, o, none⟩ = some (.int .u8 (f 0)) := hc 0 (by omega)
        have b0 := hf 0 (by omega)
        rw [← hz] at c0 b0
        have hA : Hid (z = f 0) := hz
        have HF : Hid (∀ i, i < m → 0 ≤ f i ∧ f i ≤ 255) := hf
        clear hc hf hz
        go_wp2
        go_round
        case rel => exact ⟨1, by omega, by go_num, int_eq (by rw [HT.out, hA.out]; exact le_step0 f (HF.out 0 (by omega)))⟩
        case measure => simp [intOf]; omega
      · obtain ⟨z, hz⟩ : ∃ z, z = f 1 := ⟨_, rfl⟩
        have c0 : w.cell? ⟨g, o + 1, none⟩ = some (.int .u8 (f 1)) := hc 1 (by omega)
        have b0 := hf 1 (by omega)
        rw [← hz] at c0 b0
        have hA : Hid (z = f 1) := hz
        have HF : Hid (∀ i, i < m → 0 ≤ f i ∧ f i ≤ 255) := hf
        clear hc hf hz
        go_wp2
        go_round
        case rel => exact ⟨2, by omega, by go_num, int_eq (by rw [HT.out, hA.out]; exact le_step1 f (HF.out 0 (by omega)) (HF.out 1 (by omega)))⟩
        case measure => simp [intOf]; omega
      · obtain ⟨z, hz⟩ : ∃ z, z = f 2 := ⟨_, rfl⟩
        have c0 : w.cell? ⟨g, o + 2, none⟩ = some (.int .u8 (f 2)) := hc 2 (by omega)
        have b0 := hf 2 (by omega)
        rw [← hz] at c0 b0
        have hA : Hid (z = f 2) := hz
        have HF : Hid (∀ i, i < m → 0 ≤ f i ∧ f i ≤ 255) := hf
        clear hc hf hz
        go_wp2
        go_round
        case rel => exact ⟨3, by omega, by go_num, int_eq (by rw [HT.out, hA.out]; exact le_step2 f (HF.out 0 (by omega)) (HF.out 1 (by omega)) (HF.out 2 (by omega)))⟩
        case measure => simp [intOf]; omega
      · obtain ⟨z, hz⟩ : ∃ z, z = f 3 := ⟨_, rfl⟩
        have c0 : w.cell? ⟨g, o + 3, none⟩ = some (.int .u8 (f 3)) := hc 3 (by omega)
        have b0 := hf 3 (by omega)
        rw [← hz] at c0 b0
        have hA : Hid (z = f 3) := hz
        have HF : Hid (∀ i, i < m → 0 ≤ f i ∧ f i ≤ 255) := hf
        clear hc hf hz
        go_wp2
        go_round
        case rel => exact ⟨4, by omega, by go_num, int_eq (by rw [HT.out, hA.out]; exact le_step3 f (HF.out 0 (by omega)) (HF.out 1 (by omega)) (HF.out 2 (by omega)) (HF.out 3 (by omega)))⟩
        case measure => simp [intOf]; omega
    · obtain rfl : j = m := by omega
      go_wp2
      go_ret
      exact ⟨congrArg Ending.returned (int_eq HT.out), rfl⟩

/-- Bytes that lie in memory. -/
def Lies (w : World) (g o n : Nat) (f : Nat → Int) : Prop := ∀ i, i < n → w.cell? ⟨g, o + i, none⟩ = some (.int .u8 (f i))

/-- What a load finds: the number of the bytes, with its sign where the load has one. -/
def ldv (op : Int) (f : Nat → Int) : Int := if op = 11 then (if f 0 < 128 then f 0 else f 0 + 4294967040) else if op = 12 then (if le f 2 < 32768 then le f 2 else le f 2 + 4294901760) else le f (ldn op).toNat

theorem Load_no (p : Option Addr) (n c : Nat) (op a : Int) (hn : n ≤ 140737488355328) (a0 : 0 ≤ a) (a1 : a ≤ 4294967295) (h : ¬ (0 < ldn op ∧ a % ldn op = 0 ∧ a + ldn op ≤ n)) (w : World) :
    Calls Tryd.prog 52 #[.slice p n c, .int .i64 op, .int .u32 a] w fun e w' => e = .returned (.tuple #[.int .u32 0, .bool false]) ∧ w' = w := by
  have hd : decide (0 < ldn op ∧ a % ldn op = 0 ∧ a + ldn op ≤ n) = false := decide_eq_false h
  have hm := ldn_cases op
  have H : Hid (ldn op = ldn op) := rfl
  obtain ⟨m, hM⟩ : ∃ m, m = ldn op := ⟨_, rfl⟩
  have C1 := loaded_any op
  rw [← hM] at hd hm C1
  have C2 := fun w => stands_any p n c a m hn a0 a1 hm w
  rw [hd] at C2
  clear hM h hd hm
  go_enter Tryd.func52, Tryd.ntmps52
  go_wp2_with fail
  refine (C1 _).mono ?_
  rintro e w' ⟨rfl, rfl⟩
  go_wp2_with fail
  refine (C2 _).mono ?_
  rintro e w' ⟨rfl, rfl⟩
  go_wp2_with fail
  go_ret2
  exact ⟨rfl, rfl⟩

theorem le_rng2 (f : Nat → Int) (hf : ∀ i, i < 2 → 0 ≤ f i ∧ f i ≤ 255) : 0 ≤ le f 2 ∧ le f 2 ≤ 65535 := by
  have h0 := hf 0 (by omega)
  have h1 := hf 1 (by omega)
  show 0 ≤ f 0 + f 1 * 256 ∧ f 0 + f 1 * 256 ≤ 65535
  omega

theorem wrap_i8 (L : Int) (h0 : 128 ≤ L) (h1 : L ≤ 255) : IntKind.i8.wrap L = L - 256 := by
  simp [IntKind.wrap, IntKind.bits, IntKind.signed]; omega
theorem wrap_i16 (L : Int) (h0 : 32768 ≤ L) (h1 : L ≤ 65535) : IntKind.i16.wrap L = L - 65536 := by
  simp [IntKind.wrap, IntKind.bits, IntKind.signed]; omega

set_option maxHeartbeats 1000000 in
theorem Load_any (g o n c : Nat) (op : Int) (a m : Nat) (f : Nat → Int) (hM : ldn op = (m : Int)) (hn : n ≤ 140737488355328) (a1 : a ≤ 4294967295) (h0 : 0 < m) (h1 : a % m = 0) (h2 : a + m ≤ n) (hnc : n ≤ c) (w : World)
    (hf : ∀ i, i < m → 0 ≤ f i ∧ f i ≤ 255) (hc : Lies w g (o + a) m f) :
    Calls Tryd.prog 52 #[.slice (some ⟨g, o, none⟩) n c, .int .i64 op, .int .u32 a] w fun e w' => e = .returned (.tuple #[.int .u32 (ldv op f), .bool true]) ∧ w' = w := by
  have hm' := ldn_cases op
  have hm : m = 1 ∨ m = 2 ∨ m = 4 := by omega
  have C1 := loaded_any op
  rw [hM] at C1 hm'
  have C2 := fun w => stands_any (some ⟨g, o, none⟩) n c a m hn (by omega) (by omega) hm' w
  have hd : decide (0 < (m : Int) ∧ (a : Int) % m = 0 ∧ (a : Int) + m ≤ n) = true := decide_eq_true ⟨by omega, by omega, by omega⟩
  rw [hd] at C2
  have C3 := fun w hc => gather_any g (o + a) (n - a) (c - a) m f hm (by omega) (by omega) hf w hc
  clear hd hm'
  obtain ⟨L, hL⟩ : ∃ L, L = le f m := ⟨_, rfl⟩
  have HL : Hid (L = le f m) := hL
  rw [← hL] at C3
  clear hL
  go_enter Tryd.func52, Tryd.ntmps52
  go_wp2_with fail
  refine (C1 _).mono ?_
  rintro e w' ⟨rfl, rfl⟩
  go_wp2_with fail
  refine (C2 _).mono ?_
  rintro e w' ⟨rfl, rfl⟩
  go_wp2_with fail
  refine (C3 _ hc).mono ?_
  rintro e w' ⟨rfl, rfl⟩
  clear C1 C2 C3 hc
  by_cases e1 : op = 11
  · have hml : m = 1 := by subst e1; simp [ldn] at hM; omega
    subst hml
    have hl : L = f 0 := HL.out
    have b0 := hf 0 (by omega)
    rw [← hl] at b0
    have HV : Hid (ldv op f = if L < 128 then L else L + 4294967040) := by show ldv op f = _; rw [hl, ldv, if_pos e1]
    clear hl hf HL
    by_cases hs : L < 128
    · rw [if_pos hs] at HV
      go_wp2_with fail
      go_ret2
      exact ⟨ret_ub HV.out.symm true, rfl⟩
    · rw [if_neg hs] at HV
      have hw : IntKind.i8.wrap L % 4294967296 = L + 4294967040 := by rw [wrap_i8 L (by omega) (by omega)]; omega
      go_wp2_with fail
      rw [hw]
      go_ret2
      exact ⟨ret_ub HV.out.symm true, rfl⟩
  · by_cases e2 : op = 12
    · have hml : m = 2 := by subst e2; simp [ldn] at hM; omega
      subst hml
      have hl : L = le f 2 := HL.out
      have b0 := le_rng2 f hf
      rw [← hl] at b0
      have HV : Hid (ldv op f = if L < 32768 then L else L + 4294901760) := by show ldv op f = _; rw [hl, ldv, if_neg e1, if_pos e2]
      clear hl hf HL
      by_cases hs : L < 32768
      · rw [if_pos hs] at HV
        go_wp2_with fail
        go_ret2
        exact ⟨ret_ub HV.out.symm true, rfl⟩
      · rw [if_neg hs] at HV
        have hw : IntKind.i16.wrap L % 4294967296 = L + 4294901760 := by rw [wrap_i16 L (by omega) (by omega)]; omega
        go_wp2_with fail
        rw [hw]
        go_ret2
        exact ⟨ret_ub HV.out.symm true, rfl⟩
    · have HV : Hid (ldv op f = L) := by
        show ldv op f = L
        rw [HL.out, ldv, if_neg e1, if_neg e2, hM]; rfl
      clear HL hf hM
      go_wp2_with fail
      go_ret2
      exact ⟨ret_ub HV.out.symm true, rfl⟩
end Go.Proofs.YtpiohehijkpghaaDoor
namespace Go.Proofs.YtpiohehijkpghaaDoor
open Go.RowKit
open Hy
set_option linter.unusedVariables false

theorem tLoad_no (p : Option Addr) (n c : Nat) (op a : Int) (hn : n ≤ 140737488355328) (a0 : 0 ≤ a) (a1 : a ≤ 4294967295) (h : ¬ (0 < ldn op ∧ a % ldn op = 0 ∧ a + ldn op ≤ n)) (w : World) :
    Calls Tryd.prog 36 #[.slice p n c, .int .i64 op, .int .u32 a] w fun e w' => e = .returned (.tuple #[.int .u32 0, .bool false]) ∧ w' = w := by
  have hd : decide (0 < ldn op ∧ a % ldn op = 0 ∧ a + ldn op ≤ n) = false := decide_eq_false h
  have hm := ldn_cases op
  obtain ⟨m, hM⟩ : ∃ m, m = ldn op := ⟨_, rfl⟩
  have C1 := tSize_load op
  rw [← hM] at hd hm C1
  have C2 := fun w => there_any p n c a m hn a0 a1 hm w
  rw [hd] at C2
  clear hM h hd hm
  go_enter Tryd.func36, Tryd.ntmps36
  go_wp2_with fail
  refine (C1 _).mono ?_
  rintro e w' ⟨rfl, rfl⟩
  go_wp2_with fail
  refine (C2 _).mono ?_
  rintro e w' ⟨rfl, rfl⟩
  go_wp2_with fail
  go_ret2
  exact ⟨rfl, rfl⟩

/-- A power of 256. -/
def p256 : Nat → Int
  | 0 => 1
  | 1 => 256
  | 2 => 65536
  | 3 => 16777216
  | _ => 4294967296

theorem le_rng (f : Nat → Int) (j : Nat) (hj : j ≤ 4) (hf : ∀ i, i < j → 0 ≤ f i ∧ f i ≤ 255) : 0 ≤ le f j ∧ le f j ≤ p256 j - 1 := by
  rcases (by omega : j = 0 ∨ j = 1 ∨ j = 2 ∨ j = 3 ∨ j = 4) with rfl | rfl | rfl | rfl | rfl
  · exact ⟨Int.le_refl 0, by show (0 : Int) ≤ 1 - 1; omega⟩
  · have h0 := hf 0 (by omega)
    show 0 ≤ f 0 ∧ f 0 ≤ 256 - 1
    omega
  · have h0 := hf 0 (by omega)
    have h1 := hf 1 (by omega)
    show 0 ≤ f 0 + f 1 * 256 ∧ f 0 + f 1 * 256 ≤ 65536 - 1
    omega
  · have h0 := hf 0 (by omega)
    have h1 := hf 1 (by omega)
    have h2 := hf 2 (by omega)
    show 0 ≤ f 0 + f 1 * 256 + f 2 * 65536 ∧ f 0 + f 1 * 256 + f 2 * 65536 ≤ 16777216 - 1
    omega
  · have h0 := hf 0 (by omega)
    have h1 := hf 1 (by omega)
    have h2 := hf 2 (by omega)
    have h3 := hf 3 (by omega)
    show 0 ≤ f 0 + f 1 * 256 + f 2 * 65536 + f 3 * 16777216 ∧ f 0 + f 1 * 256 + f 2 * 65536 + f 3 * 16777216 ≤ 4294967296 - 1
    omega
theorem le_succ0 (f : Nat → Int) : le f 1 = le f 0 + f 0 := by show f 0 = 0 + f 0; omega
theorem le_succ1 (f : Nat → Int) : le f 2 = le f 1 + f 1 * 256 := rfl
theorem le_succ2 (f : Nat → Int) : le f 3 = le f 2 + f 2 * 65536 := rfl
theorem le_succ3 (f : Nat → Int) : le f 4 = le f 3 + f 3 * 16777216 := rfl

set_option maxHeartbeats 1000000 in
theorem tLoad_any (g o n c : Nat) (op : Int) (a m : Nat) (f : Nat → Int) (hM : ldn op = (m : Int)) (hn : n ≤ 140737488355328) (a1 : a ≤ 4294967295) (h0 : 0 < m) (h1 : a % m = 0) (h2 : a + m ≤ n) (hnc : n ≤ c) (w : World)
    (hf : ∀ i, i < m → 0 ≤ f i ∧ f i ≤ 255) (hc : Lies w g (o + a) m f) :
    Calls Tryd.prog 36 #[.slice (some ⟨g, o, none⟩) n c, .int .i64 op, .int .u32 a] w fun e w' => e = .returned (.tuple #[.int .u32 (ldv op f), .bool true]) ∧ w' = w := by
  have hm' := ldn_cases op
  have hm : m = 1 ∨ m = 2 ∨ m = 4 := by omega
  have C1 := tSize_load op
  rw [hM] at C1 hm'
  have C2 := fun w => there_any (some ⟨g, o, none⟩) n c a m hn (by omega) (by omega) hm' w
  have hd : decide (0 < (m : Int) ∧ (a : Int) % m = 0 ∧ (a : Int) + m ≤ n) = true := decide_eq_true ⟨by omega, by omega, by omega⟩
  rw [hd] at C2
  clear hd hm'
  go_enter Tryd.func36, Tryd.ntmps36
  go_wp2_with fail
  refine (C1 _).mono ?_
  rintro e w' ⟨rfl, rfl⟩
  go_wp2_with fail
  refine (C2 _).mono ?_
  rintro e w' ⟨rfl, rfl⟩
  clear C1 C2
  go_wp2_with fail
  go_loop [9, 10, 11] (fun t q k => ∃ j : Nat, j ≤ m ∧ k = .int .i64 j ∧ t = .int .i64 (le f j) ∧ q = .int .i64 (p256 j)) (fun _ _ k => m - (intOf k).toNat)
  case atStart => exact ⟨0, by omega, rfl, rfl, rfl⟩
  case round =>
    obtain ⟨j, hj, rfl, rfl, rfl⟩ := hrel
    obtain ⟨T, hT⟩ : ∃ T, T = le f j := ⟨_, rfl⟩
    have HT : Hid (T = le f j) := hT
    rw [← hT]
    clear hT
    by_cases hlt : j < m
    · rcases (by omega : j = 0 ∨ j = 1 ∨ j = 2 ∨ j = 3) with rfl | rfl | rfl | rfl
      · obtain ⟨z, hz⟩ : ∃ z, z = f 0 := ⟨_, rfl⟩
        have c0 : w'.cell? ⟨g, o + a, none⟩ = some (.int .u8 (f 0)) := hc 0 (by omega)
        have b0 := hf 0 (by omega)
        rw [← hz] at c0 b0
        have hA : Hid (z = f 0) := hz
        have tb : 0 ≤ T ∧ T ≤ 0 := by rw [HT.out]; exact le_rng f 0 (by omega) (fun i hi => hf i (by omega))
        have HF : Hid (∀ i, i < m → 0 ≤ f i ∧ f i ≤ 255) := hf
        rw [show p256 0 = 1 from rfl]
        clear hc hf hz
        go_wp2
        go_round
        case rel => exact ⟨1, by omega, by go_num, int_eq (by rw [le_succ0, ← HT.out, ← hA.out]), rfl⟩
        case measure => simp [intOf]; omega
      · obtain ⟨z, hz⟩ : ∃ z, z = f 1 := ⟨_, rfl⟩
        have c0 : w'.cell? ⟨g, o + (a + 1), none⟩ = some (.int .u8 (f 1)) := by have h := hc 1 (by omega); rw [Nat.add_assoc] at h; exact h
        have b0 := hf 1 (by omega)
        rw [← hz] at c0 b0
        have hA : Hid (z = f 1) := hz
        have tb : 0 ≤ T ∧ T ≤ 255 := by rw [HT.out]; exact le_rng f 1 (by omega) (fun i hi => hf i (by omega))
        have HF : Hid (∀ i, i < m → 0 ≤ f i ∧ f i ≤ 255) := hf
        rw [show p256 1 = 256 from rfl]
        clear hc hf hz
        go_wp2
        go_round
        case rel => exact ⟨2, by omega, by go_num, int_eq (by rw [le_succ1, ← HT.out, ← hA.out]), rfl⟩
        case measure => simp [intOf]; omega
      · obtain ⟨z, hz⟩ : ∃ z, z = f 2 := ⟨_, rfl⟩
        have c0 : w'.cell? ⟨g, o + (a + 2), none⟩ = some (.int .u8 (f 2)) := by have h := hc 2 (by omega); rw [Nat.add_assoc] at h; exact h
        have b0 := hf 2 (by omega)
        rw [← hz] at c0 b0
        have hA : Hid (z = f 2) := hz
        have tb : 0 ≤ T ∧ T ≤ 65535 := by rw [HT.out]; exact le_rng f 2 (by omega) (fun i hi => hf i (by omega))
        have HF : Hid (∀ i, i < m → 0 ≤ f i ∧ f i ≤ 255) := hf
        rw [show p256 2 = 65536 from rfl]
        clear hc hf hz
        go_wp2
        go_round
        case rel => exact ⟨3, by omega, by go_num, int_eq (by rw [le_succ2, ← HT.out, ← hA.out]), rfl⟩
        case measure => simp [intOf]; omega
      · obtain ⟨z, hz⟩ : ∃ z, z = f 3 := ⟨_, rfl⟩
        have c0 : w'.cell? ⟨g, o + (a + 3), none⟩ = some (.int .u8 (f 3)) := by have h := hc 3 (by omega); rw [Nat.add_assoc] at h; exact h
        have b0 := hf 3 (by omega)
        rw [← hz] at c0 b0
        have hA : Hid (z = f 3) := hz
        have tb : 0 ≤ T ∧ T ≤ 16777215 := by rw [HT.out]; exact le_rng f 3 (by omega) (fun i hi => hf i (by omega))
        have HF : Hid (∀ i, i < m → 0 ≤ f i ∧ f i ≤ 255) := hf
        rw [show p256 3 = 16777216 from rfl]
        clear hc hf hz
        go_wp2
        go_round
        case rel => exact ⟨4, by omega, by go_num, int_eq (by rw [le_succ3, ← HT.out, ← hA.out]), rfl⟩
        case measure => simp [intOf]; omega
    · obtain rfl : j = m := by omega
      have tb := le_rng f j (by omega) hf
      rw [← HT.out] at tb
      by_cases e1 : op = 11
      · obtain rfl : j = 1 := by subst e1; simp [ldn] at hM; omega
        have hl : T = f 0 := HT.out
        rw [show p256 1 = 256 from rfl] at tb ⊢
        have HV : Hid (ldv op f = if T < 128 then T else T + 4294967040) := by show ldv op f = _; rw [hl, ldv, if_pos e1]
        clear hl hf HT hc
        by_cases hs : T < 128
        · rw [if_pos hs] at HV
          have hO : T % 4294967296 = T := by omega
          have C := rOf_any T w'
          rw [hO] at C
          clear hO
          have q : decide (128 ≤ T) = false := decide_eq_false (by omega)
          go_wp2_with fail
          refine C.mono ?_
          rintro e w' ⟨rfl, rfl⟩
          go_wp2_with fail
          go_ret2
          exact ⟨ret_ub HV.out.symm true, rfl⟩
        · rw [if_neg hs] at HV
          have hO : (T - 256) % 4294967296 = T + 4294967040 := by omega
          have C := rOf_any (T - 256) w'
          rw [hO] at C
          clear hO
          have q : decide (128 ≤ T) = true := decide_eq_true (by omega)
          go_wp2_with fail
          refine C.mono ?_
          rintro e w' ⟨rfl, rfl⟩
          go_wp2_with fail
          go_ret2
          exact ⟨ret_ub HV.out.symm true, rfl⟩
      · by_cases e2 : op = 12
        · obtain rfl : j = 2 := by subst e2; simp [ldn] at hM; omega
          have hl : T = le f 2 := HT.out
          rw [show p256 2 = 65536 from rfl] at tb ⊢
          have HV : Hid (ldv op f = if T < 32768 then T else T + 4294901760) := by show ldv op f = _; rw [hl, ldv, if_neg e1, if_pos e2]
          clear hl hf HT hc
          by_cases hs : T < 32768
          · rw [if_pos hs] at HV
            have hO : T % 4294967296 = T := by omega
            have C := rOf_any T w'
            rw [hO] at C
            clear hO
            have q : decide (32768 ≤ T) = false := decide_eq_false (by omega)
            go_wp2_with fail
            refine C.mono ?_
            rintro e w' ⟨rfl, rfl⟩
            go_wp2_with fail
            go_ret2
            exact ⟨ret_ub HV.out.symm true, rfl⟩
          · rw [if_neg hs] at HV
            have hO : (T - 65536) % 4294967296 = T + 4294901760 := by omega
            have C := rOf_any (T - 65536) w'
            rw [hO] at C
            clear hO
            have q : decide (32768 ≤ T) = true := decide_eq_true (by omega)
            go_wp2_with fail
            refine C.mono ?_
            rintro e w' ⟨rfl, rfl⟩
            go_wp2_with fail
            go_ret2
            exact ⟨ret_ub HV.out.symm true, rfl⟩
        · have HV : Hid (ldv op f = T) := by
            show ldv op f = T
            rw [HT.out, ldv, if_neg e1, if_neg e2, hM]; rfl
          have tb' : T ≤ 4294967295 := by
            rcases hm with h | h | h
            all_goals (subst h; have t2 := tb.2; simp only [p256] at t2; omega)
          have hO : T % 4294967296 = T := by omega
          have C := rOf_any T w'
          rw [hO] at C
          clear hO
          have q1 : (op == 11) = false := beq_eq_false_iff_ne.2 e1
          have q2 : (op == 12) = false := beq_eq_false_iff_ne.2 e2
          clear HT hf hM hc
          go_wp2_with fail
          refine C.mono ?_
          rintro e w' ⟨rfl, rfl⟩
          go_wp2_with fail
          go_ret2
          exact ⟨ret_ub HV.out.symm true, rfl⟩
end Go.Proofs.YtpiohehijkpghaaDoor
namespace Go.Proofs.YtpiohehijkpghaaDoor
open Go.RowKit
open Hy
set_option linter.unusedVariables false

/-- An instruction. -/
structure In where
  op : Int
  rd : Nat
  s1 : Nat
  s2 : Nat
  im : Int
/-- A commit. -/
structure Cm where
  pc : Int
  next : Int
  st : Int
  ca : Int
  rd : Nat
  val : Int
  pl : Int
  many : Int
  data : Int
  out : Bool
  told : Int
/-- Alu's op of an instruction with a number. -/
def opn (op : Int) : Int := if op = 19 then 28 else if op = 20 then 31 else if op = 21 then 32 else if op = 22 then 33 else if op = 23 then 36 else if op = 24 then 37 else if op = 25 then 30 else if op = 26 then 34 else 35

def zin : In := ⟨0, 0, 0, 0, 0⟩
def zcm : Cm := ⟨0, 0, 0, 0, 0, 0, 0, 0, 0, false, 0⟩
/-- One that traps. -/
def trapC (pc k : Int) : Cm := ⟨pc, pc, 2, k, 0, 0, 0, 0, 0, false, 0⟩
/-- One that goes on and gives a register a word. -/
def onC (pc : Int) (rd : Nat) (v : Int) : Cm := ⟨pc, (pc + 4) % 4294967296, 0, 0, rd, if rd = 0 then 0 else v, 0, 0, 0, false, 0⟩
def sts (i : In) : Bool := decide (16 ≤ i.op ∧ i.op ≤ 18)
def trn (i : In) : Bool := decide (4 ≤ i.op ∧ i.op ≤ 10)
def gvs (i : In) : Nat := if i.op = 46 then 0 else i.rd
def ra (i : In) : Nat := if i.op = 47 then 17 else i.s1
def rb (i : In) : Nat := if i.op = 47 then 10 else i.s2
/-- Where a load or store of an instruction is. -/
def place (i : In) (a : Int) : Int := (a + i.im) % 4294967296
/-- Whether so many bytes may be loaded there. -/
def fits (n : Nat) (x many : Int) : Bool := decide (0 ≤ x ∧ x % many = 0 ∧ x + many ≤ n)
/-- What a load gives. -/
def loadC (n : Nat) (f : Nat → Int) (i : In) (pc a : Int) : Cm :=
  if fits n (place i a) (ldn i.op) then onC pc i.rd (ldv i.op (fun k => f ((place i a).toNat + k))) else trapC pc 3

/-- One that gives a register a word, and goes on there. -/
def giveC (pc nx : Int) (rd : Nat) (v : Int) : Cm := ⟨pc, nx, 0, 0, rd, if rd = 0 then 0 else v, 0, 0, 0, false, 0⟩
/-- Where the program goes on. -/
def nxW (i : In) (pc a b : Int) : Int :=
  if i.op = 3 then (pc + i.im % 4294967296) % 4294967296
  else if i.op = 4 then (a + i.im % 4294967296) % 4294967296 - (a + i.im % 4294967296) % 4294967296 % 2
  else if holds i.op a b = true then (pc + i.im % 4294967296) % 4294967296
  else (pc + 4) % 4294967296
/-- What a register is given. -/
def rkW (i : In) (pc a b : Int) : Int :=
  if i.op = 1 then i.im % 4294967296
  else if i.op = 2 then (pc + i.im % 4294967296) % 4294967296
  else if i.op = 3 ∨ i.op = 4 then (pc + 4) % 4294967296
  else if 19 ≤ i.op ∧ i.op ≤ 27 then alu (opn i.op) a (i.im % 4294967296)
  else alu i.op a b
/-- What an instruction does that is no load. -/
def doW (i : In) (pc a b : Int) (n : Nat) : Cm :=
  if sts i = true then
    (if fits n (place i a) (stn i.op) = true then ⟨pc, (pc + 4) % 4294967296, 0, 0, 0, 0, place i a, stn i.op, b % p256 (stn i.op).toNat, false, 0⟩ else trapC pc 4)
  else if i.op = 46 then onC pc 0 0
  else if i.op = 47 then (if a = 0 then ⟨pc, pc, 1, 0, 0, 0, 0, 0, 0, false, 0⟩ else if a = 1 then ⟨pc, (pc + 4) % 4294967296, 0, 0, 0, 0, 0, 0, 0, true, b⟩ else trapC pc 5)
  else if i.op = 48 then trapC pc 6
  else giveC pc (nxW i pc a b) i.rd (rkW i pc a b)
/-- What an instruction does. -/
def allW (n : Nat) (f : Nat → Int) (i : In) (pc a b : Int) : Cm := if ldn i.op ≠ 0 then loadC n f i pc a else doW i pc a b n
end Go.Proofs.YtpiohehijkpghaaDoor
