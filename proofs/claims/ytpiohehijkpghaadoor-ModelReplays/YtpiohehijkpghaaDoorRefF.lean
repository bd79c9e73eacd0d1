/- What the document's reckoning tells of a word: its instruction's number and its form. -/
import Derived.Test.YtpiohehijkpghaaDoorRefP
namespace Go.Proofs.YtpiohehijkpghaaDoor
open Go.RowKit
open Hy
set_option linter.unusedVariables false

theorem tw (n : Nat) (v : Int) (h : v = two n) : Hid (v = two n) := h

theorem rform_c55 (x D U : Int) (x0 : 0 ≤ x) (x1 : x ≤ 4294967295) (HL : Hid ((55 : Int) = x / 1 % 128)) (HD : Hid ((D : Int) = x / 4096 % 8)) (HU : Hid ((U : Int) = x / 33554432)) (d0 : 0 ≤ D) (d1 : D < 8) (u0 : 0 ≤ U) (u1 : U < 128) (w : World) :
    Calls Tryd.prog 27 #[.int .u32 x] w fun e w' => e = .returned (.tuple #[.int .i64 (1), .int .u8 85]) ∧ Below w.heap.size w w' := by
  go_enter Tryd.func27, Tryd.ntmps27
  go_wp2_with fail
  refine (rCut_mid x 0 6 1 128 55 0 7 x0 x1 (by omega) (by omega) (by omega) (by omega) rfl (by omega) (tw 0 1 (by decide)) rfl (by omega) (tw 7 128 (by decide)) HL _).mono ?_
  rintro e w' ⟨rfl, rfl⟩
  go_wp2_with fail
  refine (rCut_mid x 12 14 4096 8 D 12 3 x0 x1 (by omega) (by omega) (by omega) (by omega) rfl (by omega) (tw 12 4096 (by decide)) rfl (by omega) (tw 3 8 (by decide)) HD _).mono ?_
  rintro e w' ⟨rfl, rfl⟩
  go_wp2_with fail
  refine (rCut_top x 25 33554432 U 25 x0 x1 rfl (by omega) (tw 25 33554432 (by decide)) HU _).mono ?_
  rintro e w' ⟨rfl, rfl⟩
  go_wp2_with fail
  go_ret2
  exact ⟨rfl, Below.refl _ _⟩

theorem rform_c23 (x D U : Int) (x0 : 0 ≤ x) (x1 : x ≤ 4294967295) (HL : Hid ((23 : Int) = x / 1 % 128)) (HD : Hid ((D : Int) = x / 4096 % 8)) (HU : Hid ((U : Int) = x / 33554432)) (d0 : 0 ≤ D) (d1 : D < 8) (u0 : 0 ≤ U) (u1 : U < 128) (w : World) :
    Calls Tryd.prog 27 #[.int .u32 x] w fun e w' => e = .returned (.tuple #[.int .i64 (2), .int .u8 85]) ∧ Below w.heap.size w w' := by
  go_enter Tryd.func27, Tryd.ntmps27
  go_wp2_with fail
  refine (rCut_mid x 0 6 1 128 23 0 7 x0 x1 (by omega) (by omega) (by omega) (by omega) rfl (by omega) (tw 0 1 (by decide)) rfl (by omega) (tw 7 128 (by decide)) HL _).mono ?_
  rintro e w' ⟨rfl, rfl⟩
  go_wp2_with fail
  refine (rCut_mid x 12 14 4096 8 D 12 3 x0 x1 (by omega) (by omega) (by omega) (by omega) rfl (by omega) (tw 12 4096 (by decide)) rfl (by omega) (tw 3 8 (by decide)) HD _).mono ?_
  rintro e w' ⟨rfl, rfl⟩
  go_wp2_with fail
  refine (rCut_top x 25 33554432 U 25 x0 x1 rfl (by omega) (tw 25 33554432 (by decide)) HU _).mono ?_
  rintro e w' ⟨rfl, rfl⟩
  go_wp2_with fail
  go_ret2
  exact ⟨rfl, Below.refl _ _⟩

theorem rform_c111 (x D U : Int) (x0 : 0 ≤ x) (x1 : x ≤ 4294967295) (HL : Hid ((111 : Int) = x / 1 % 128)) (HD : Hid ((D : Int) = x / 4096 % 8)) (HU : Hid ((U : Int) = x / 33554432)) (d0 : 0 ≤ D) (d1 : D < 8) (u0 : 0 ≤ U) (u1 : U < 128) (w : World) :
    Calls Tryd.prog 27 #[.int .u32 x] w fun e w' => e = .returned (.tuple #[.int .i64 (3), .int .u8 74]) ∧ Below w.heap.size w w' := by
  go_enter Tryd.func27, Tryd.ntmps27
  go_wp2_with fail
  refine (rCut_mid x 0 6 1 128 111 0 7 x0 x1 (by omega) (by omega) (by omega) (by omega) rfl (by omega) (tw 0 1 (by decide)) rfl (by omega) (tw 7 128 (by decide)) HL _).mono ?_
  rintro e w' ⟨rfl, rfl⟩
  go_wp2_with fail
  refine (rCut_mid x 12 14 4096 8 D 12 3 x0 x1 (by omega) (by omega) (by omega) (by omega) rfl (by omega) (tw 12 4096 (by decide)) rfl (by omega) (tw 3 8 (by decide)) HD _).mono ?_
  rintro e w' ⟨rfl, rfl⟩
  go_wp2_with fail
  refine (rCut_top x 25 33554432 U 25 x0 x1 rfl (by omega) (tw 25 33554432 (by decide)) HU _).mono ?_
  rintro e w' ⟨rfl, rfl⟩
  go_wp2_with fail
  go_ret2
  exact ⟨rfl, Below.refl _ _⟩

theorem rform_c103 (x D U q : Int) (x0 : 0 ≤ x) (x1 : x ≤ 4294967295) (HL : Hid ((103 : Int) = x / 1 % 128)) (HD : Hid ((D : Int) = x / 4096 % 8)) (HU : Hid ((U : Int) = x / 33554432)) (d0 : 0 ≤ D) (d1 : D < 8) (u0 : 0 ≤ U) (u1 : U < 128) (HQ : Hid (q = pk (D) (p64 #[.int .i64 0]) (p64 #[.int .i64 4]) 0 1)) (w : World) :
    Calls Tryd.prog 27 #[.int .u32 x] w fun e w' => e = .returned (.tuple #[.int .i64 q, .int .u8 73]) ∧ Below w.heap.size w w' := by
  go_enter Tryd.func27, Tryd.ntmps27
  go_wp2_with fail
  refine (rCut_mid x 0 6 1 128 103 0 7 x0 x1 (by omega) (by omega) (by omega) (by omega) rfl (by omega) (tw 0 1 (by decide)) rfl (by omega) (tw 7 128 (by decide)) HL _).mono ?_
  rintro e w' ⟨rfl, rfl⟩
  go_wp2_with fail
  refine (rCut_mid x 12 14 4096 8 D 12 3 x0 x1 (by omega) (by omega) (by omega) (by omega) rfl (by omega) (tw 12 4096 (by decide)) rfl (by omega) (tw 3 8 (by decide)) HD _).mono ?_
  rintro e w' ⟨rfl, rfl⟩
  go_wp2_with fail
  refine (rCut_top x 25 33554432 U 25 x0 x1 rfl (by omega) (tw 25 33554432 (by decide)) HU _).mono ?_
  rintro e w' ⟨rfl, rfl⟩
  go_wp2_with fail
  refine (pick_c _ q _ _ _ _ _ _ _ _ ?_ ?_ ?_ ?_ ?_ HQ).mono ?_
  · rfl
  · simp
  · omega
  · rfl
  · rfl
  rintro e w1 ⟨rfl, hb⟩
  go_wp2_with fail
  go_ret2
  exact ⟨rfl, hb⟩

theorem rform_c99 (x D U q : Int) (x0 : 0 ≤ x) (x1 : x ≤ 4294967295) (HL : Hid ((99 : Int) = x / 1 % 128)) (HD : Hid ((D : Int) = x / 4096 % 8)) (HU : Hid ((U : Int) = x / 33554432)) (d0 : 0 ≤ D) (d1 : D < 8) (u0 : 0 ≤ U) (u1 : U < 128) (HQ : Hid (q = pk (D) (p64 #[.int .i64 0, .int .i64 1, .int .i64 4, .int .i64 5, .int .i64 6, .int .i64 7]) (p64 #[.int .i64 5, .int .i64 6, .int .i64 7, .int .i64 8, .int .i64 9, .int .i64 10]) 0 6)) (w : World) :
    Calls Tryd.prog 27 #[.int .u32 x] w fun e w' => e = .returned (.tuple #[.int .i64 q, .int .u8 66]) ∧ Below w.heap.size w w' := by
  go_enter Tryd.func27, Tryd.ntmps27
  go_wp2_with fail
  refine (rCut_mid x 0 6 1 128 99 0 7 x0 x1 (by omega) (by omega) (by omega) (by omega) rfl (by omega) (tw 0 1 (by decide)) rfl (by omega) (tw 7 128 (by decide)) HL _).mono ?_
  rintro e w' ⟨rfl, rfl⟩
  go_wp2_with fail
  refine (rCut_mid x 12 14 4096 8 D 12 3 x0 x1 (by omega) (by omega) (by omega) (by omega) rfl (by omega) (tw 12 4096 (by decide)) rfl (by omega) (tw 3 8 (by decide)) HD _).mono ?_
  rintro e w' ⟨rfl, rfl⟩
  go_wp2_with fail
  refine (rCut_top x 25 33554432 U 25 x0 x1 rfl (by omega) (tw 25 33554432 (by decide)) HU _).mono ?_
  rintro e w' ⟨rfl, rfl⟩
  go_wp2_with fail
  refine (pick_c _ q _ _ _ _ _ _ _ _ ?_ ?_ ?_ ?_ ?_ HQ).mono ?_
  · rfl
  · simp
  · omega
  · rfl
  · rfl
  rintro e w1 ⟨rfl, hb⟩
  go_wp2_with fail
  go_ret2
  exact ⟨rfl, hb⟩

theorem rform_c3 (x D U q : Int) (x0 : 0 ≤ x) (x1 : x ≤ 4294967295) (HL : Hid ((3 : Int) = x / 1 % 128)) (HD : Hid ((D : Int) = x / 4096 % 8)) (HU : Hid ((U : Int) = x / 33554432)) (d0 : 0 ≤ D) (d1 : D < 8) (u0 : 0 ≤ U) (u1 : U < 128) (HQ : Hid (q = pk (D) (p64 #[.int .i64 0, .int .i64 1, .int .i64 2, .int .i64 4, .int .i64 5]) (p64 #[.int .i64 11, .int .i64 12, .int .i64 13, .int .i64 14, .int .i64 15]) 0 5)) (w : World) :
    Calls Tryd.prog 27 #[.int .u32 x] w fun e w' => e = .returned (.tuple #[.int .i64 q, .int .u8 73]) ∧ Below w.heap.size w w' := by
  go_enter Tryd.func27, Tryd.ntmps27
  go_wp2_with fail
  refine (rCut_mid x 0 6 1 128 3 0 7 x0 x1 (by omega) (by omega) (by omega) (by omega) rfl (by omega) (tw 0 1 (by decide)) rfl (by omega) (tw 7 128 (by decide)) HL _).mono ?_
  rintro e w' ⟨rfl, rfl⟩
  go_wp2_with fail
  refine (rCut_mid x 12 14 4096 8 D 12 3 x0 x1 (by omega) (by omega) (by omega) (by omega) rfl (by omega) (tw 12 4096 (by decide)) rfl (by omega) (tw 3 8 (by decide)) HD _).mono ?_
  rintro e w' ⟨rfl, rfl⟩
  go_wp2_with fail
  refine (rCut_top x 25 33554432 U 25 x0 x1 rfl (by omega) (tw 25 33554432 (by decide)) HU _).mono ?_
  rintro e w' ⟨rfl, rfl⟩
  go_wp2_with fail
  refine (pick_c _ q _ _ _ _ _ _ _ _ ?_ ?_ ?_ ?_ ?_ HQ).mono ?_
  · rfl
  · simp
  · omega
  · rfl
  · rfl
  rintro e w1 ⟨rfl, hb⟩
  go_wp2_with fail
  go_ret2
  exact ⟨rfl, hb⟩

theorem rform_c35 (x D U q : Int) (x0 : 0 ≤ x) (x1 : x ≤ 4294967295) (HL : Hid ((35 : Int) = x / 1 % 128)) (HD : Hid ((D : Int) = x / 4096 % 8)) (HU : Hid ((U : Int) = x / 33554432)) (d0 : 0 ≤ D) (d1 : D < 8) (u0 : 0 ≤ U) (u1 : U < 128) (HQ : Hid (q = pk (D) (p64 #[.int .i64 0, .int .i64 1, .int .i64 2]) (p64 #[.int .i64 16, .int .i64 17, .int .i64 18]) 0 3)) (w : World) :
    Calls Tryd.prog 27 #[.int .u32 x] w fun e w' => e = .returned (.tuple #[.int .i64 q, .int .u8 83]) ∧ Below w.heap.size w w' := by
  go_enter Tryd.func27, Tryd.ntmps27
  go_wp2_with fail
  refine (rCut_mid x 0 6 1 128 35 0 7 x0 x1 (by omega) (by omega) (by omega) (by omega) rfl (by omega) (tw 0 1 (by decide)) rfl (by omega) (tw 7 128 (by decide)) HL _).mono ?_
  rintro e w' ⟨rfl, rfl⟩
  go_wp2_with fail
  refine (rCut_mid x 12 14 4096 8 D 12 3 x0 x1 (by omega) (by omega) (by omega) (by omega) rfl (by omega) (tw 12 4096 (by decide)) rfl (by omega) (tw 3 8 (by decide)) HD _).mono ?_
  rintro e w' ⟨rfl, rfl⟩
  go_wp2_with fail
  refine (rCut_top x 25 33554432 U 25 x0 x1 rfl (by omega) (tw 25 33554432 (by decide)) HU _).mono ?_
  rintro e w' ⟨rfl, rfl⟩
  go_wp2_with fail
  refine (pick_c _ q _ _ _ _ _ _ _ _ ?_ ?_ ?_ ?_ ?_ HQ).mono ?_
  · rfl
  · simp
  · omega
  · rfl
  · rfl
  rintro e w1 ⟨rfl, hb⟩
  go_wp2_with fail
  go_ret2
  exact ⟨rfl, hb⟩

theorem rform_c19a (x U q : Int) (x0 : 0 ≤ x) (x1 : x ≤ 4294967295) (HL : Hid ((19 : Int) = x / 1 % 128)) (HD : Hid ((1 : Int) = x / 4096 % 8)) (HU : Hid ((U : Int) = x / 33554432)) (u0 : 0 ≤ U) (u1 : U < 128) (HQ : Hid (q = pk (8 * U + 1) (p64 #[.int .i64 1, .int .i64 5, .int .i64 261]) (p64 #[.int .i64 25, .int .i64 26, .int .i64 27]) 0 3)) (w : World) :
    Calls Tryd.prog 27 #[.int .u32 x] w fun e w' => e = .returned (.tuple #[.int .i64 q, .int .u8 72]) ∧ Below w.heap.size w w' := by
  go_enter Tryd.func27, Tryd.ntmps27
  go_wp2_with fail
  refine (rCut_mid x 0 6 1 128 19 0 7 x0 x1 (by omega) (by omega) (by omega) (by omega) rfl (by omega) (tw 0 1 (by decide)) rfl (by omega) (tw 7 128 (by decide)) HL _).mono ?_
  rintro e w' ⟨rfl, rfl⟩
  go_wp2_with fail
  refine (rCut_mid x 12 14 4096 8 1 12 3 x0 x1 (by omega) (by omega) (by omega) (by omega) rfl (by omega) (tw 12 4096 (by decide)) rfl (by omega) (tw 3 8 (by decide)) HD _).mono ?_
  rintro e w' ⟨rfl, rfl⟩
  go_wp2_with fail
  refine (rCut_top x 25 33554432 U 25 x0 x1 rfl (by omega) (tw 25 33554432 (by decide)) HU _).mono ?_
  rintro e w' ⟨rfl, rfl⟩
  go_wp2_with fail
  refine (pick_c _ q _ _ _ _ _ _ _ _ ?_ ?_ ?_ ?_ ?_ HQ).mono ?_
  · rfl
  · simp
  · omega
  · rfl
  · rfl
  rintro e w1 ⟨rfl, hb⟩
  go_wp2_with fail
  go_ret2
  exact ⟨rfl, hb⟩

theorem rform_c19b (x U q : Int) (x0 : 0 ≤ x) (x1 : x ≤ 4294967295) (HL : Hid ((19 : Int) = x / 1 % 128)) (HD : Hid ((5 : Int) = x / 4096 % 8)) (HU : Hid ((U : Int) = x / 33554432)) (u0 : 0 ≤ U) (u1 : U < 128) (HQ : Hid (q = pk (8 * U + 5) (p64 #[.int .i64 1, .int .i64 5, .int .i64 261]) (p64 #[.int .i64 25, .int .i64 26, .int .i64 27]) 0 3)) (w : World) :
    Calls Tryd.prog 27 #[.int .u32 x] w fun e w' => e = .returned (.tuple #[.int .i64 q, .int .u8 72]) ∧ Below w.heap.size w w' := by
  go_enter Tryd.func27, Tryd.ntmps27
  go_wp2_with fail
  refine (rCut_mid x 0 6 1 128 19 0 7 x0 x1 (by omega) (by omega) (by omega) (by omega) rfl (by omega) (tw 0 1 (by decide)) rfl (by omega) (tw 7 128 (by decide)) HL _).mono ?_
  rintro e w' ⟨rfl, rfl⟩
  go_wp2_with fail
  refine (rCut_mid x 12 14 4096 8 5 12 3 x0 x1 (by omega) (by omega) (by omega) (by omega) rfl (by omega) (tw 12 4096 (by decide)) rfl (by omega) (tw 3 8 (by decide)) HD _).mono ?_
  rintro e w' ⟨rfl, rfl⟩
  go_wp2_with fail
  refine (rCut_top x 25 33554432 U 25 x0 x1 rfl (by omega) (tw 25 33554432 (by decide)) HU _).mono ?_
  rintro e w' ⟨rfl, rfl⟩
  go_wp2_with fail
  refine (pick_c _ q _ _ _ _ _ _ _ _ ?_ ?_ ?_ ?_ ?_ HQ).mono ?_
  · rfl
  · simp
  · omega
  · rfl
  · rfl
  rintro e w1 ⟨rfl, hb⟩
  go_wp2_with fail
  go_ret2
  exact ⟨rfl, hb⟩

theorem rform_c19c (x D U q : Int) (x0 : 0 ≤ x) (x1 : x ≤ 4294967295) (HL : Hid ((19 : Int) = x / 1 % 128)) (HD : Hid ((D : Int) = x / 4096 % 8)) (HU : Hid ((U : Int) = x / 33554432)) (d0 : 0 ≤ D) (d1 : D < 8) (u0 : 0 ≤ U) (u1 : U < 128) (nd1 : ¬ D = 1) (nd5 : ¬ D = 5) (HQ : Hid (q = pk (D) (p64 #[.int .i64 0, .int .i64 2, .int .i64 3, .int .i64 4, .int .i64 6, .int .i64 7]) (p64 #[.int .i64 19, .int .i64 20, .int .i64 21, .int .i64 22, .int .i64 23, .int .i64 24]) 0 6)) (w : World) :
    Calls Tryd.prog 27 #[.int .u32 x] w fun e w' => e = .returned (.tuple #[.int .i64 q, .int .u8 73]) ∧ Below w.heap.size w w' := by
  have e1 : (D == 1) = false := by simpa using nd1
  have e5 : (D == 5) = false := by simpa using nd5
  go_enter Tryd.func27, Tryd.ntmps27
  go_wp2_with fail
  refine (rCut_mid x 0 6 1 128 19 0 7 x0 x1 (by omega) (by omega) (by omega) (by omega) rfl (by omega) (tw 0 1 (by decide)) rfl (by omega) (tw 7 128 (by decide)) HL _).mono ?_
  rintro e w' ⟨rfl, rfl⟩
  go_wp2_with fail
  refine (rCut_mid x 12 14 4096 8 D 12 3 x0 x1 (by omega) (by omega) (by omega) (by omega) rfl (by omega) (tw 12 4096 (by decide)) rfl (by omega) (tw 3 8 (by decide)) HD _).mono ?_
  rintro e w' ⟨rfl, rfl⟩
  go_wp2_with fail
  refine (rCut_top x 25 33554432 U 25 x0 x1 rfl (by omega) (tw 25 33554432 (by decide)) HU _).mono ?_
  rintro e w' ⟨rfl, rfl⟩
  go_wp2_with fail
  refine (pick_c _ q _ _ _ _ _ _ _ _ ?_ ?_ ?_ ?_ ?_ HQ).mono ?_
  · rfl
  · simp
  · omega
  · rfl
  · rfl
  rintro e w1 ⟨rfl, hb⟩
  go_wp2_with fail
  go_ret2
  exact ⟨rfl, hb⟩

theorem rform_c51a (x D q : Int) (x0 : 0 ≤ x) (x1 : x ≤ 4294967295) (HL : Hid ((51 : Int) = x / 1 % 128)) (HD : Hid ((D : Int) = x / 4096 % 8)) (HU : Hid ((0 : Int) = x / 33554432)) (d0 : 0 ≤ D) (d1 : D < 8) (HQ : Hid (q = pk (D) (p64 #[.int .i64 0, .int .i64 1, .int .i64 2, .int .i64 3, .int .i64 4, .int .i64 5, .int .i64 6, .int .i64 7]) (p64 #[.int .i64 28, .int .i64 30, .int .i64 31, .int .i64 32, .int .i64 33, .int .i64 34, .int .i64 36, .int .i64 37]) 0 8)) (w : World) :
    Calls Tryd.prog 27 #[.int .u32 x] w fun e w' => e = .returned (.tuple #[.int .i64 q, .int .u8 82]) ∧ Below w.heap.size w w' := by
  go_enter Tryd.func27, Tryd.ntmps27
  go_wp2_with fail
  refine (rCut_mid x 0 6 1 128 51 0 7 x0 x1 (by omega) (by omega) (by omega) (by omega) rfl (by omega) (tw 0 1 (by decide)) rfl (by omega) (tw 7 128 (by decide)) HL _).mono ?_
  rintro e w' ⟨rfl, rfl⟩
  go_wp2_with fail
  refine (rCut_mid x 12 14 4096 8 D 12 3 x0 x1 (by omega) (by omega) (by omega) (by omega) rfl (by omega) (tw 12 4096 (by decide)) rfl (by omega) (tw 3 8 (by decide)) HD _).mono ?_
  rintro e w' ⟨rfl, rfl⟩
  go_wp2_with fail
  refine (rCut_top x 25 33554432 0 25 x0 x1 rfl (by omega) (tw 25 33554432 (by decide)) HU _).mono ?_
  rintro e w' ⟨rfl, rfl⟩
  go_wp2_with fail
  refine (pick_c _ q _ _ _ _ _ _ _ _ ?_ ?_ ?_ ?_ ?_ HQ).mono ?_
  · rfl
  · simp
  · omega
  · rfl
  · rfl
  rintro e w1 ⟨rfl, hb⟩
  go_wp2_with fail
  go_ret2
  exact ⟨rfl, hb⟩

theorem rform_c51b (x D q : Int) (x0 : 0 ≤ x) (x1 : x ≤ 4294967295) (HL : Hid ((51 : Int) = x / 1 % 128)) (HD : Hid ((D : Int) = x / 4096 % 8)) (HU : Hid ((32 : Int) = x / 33554432)) (d0 : 0 ≤ D) (d1 : D < 8) (HQ : Hid (q = pk (D) (p64 #[.int .i64 0, .int .i64 5]) (p64 #[.int .i64 29, .int .i64 35]) 0 2)) (w : World) :
    Calls Tryd.prog 27 #[.int .u32 x] w fun e w' => e = .returned (.tuple #[.int .i64 q, .int .u8 82]) ∧ Below w.heap.size w w' := by
  go_enter Tryd.func27, Tryd.ntmps27
  go_wp2_with fail
  refine (rCut_mid x 0 6 1 128 51 0 7 x0 x1 (by omega) (by omega) (by omega) (by omega) rfl (by omega) (tw 0 1 (by decide)) rfl (by omega) (tw 7 128 (by decide)) HL _).mono ?_
  rintro e w' ⟨rfl, rfl⟩
  go_wp2_with fail
  refine (rCut_mid x 12 14 4096 8 D 12 3 x0 x1 (by omega) (by omega) (by omega) (by omega) rfl (by omega) (tw 12 4096 (by decide)) rfl (by omega) (tw 3 8 (by decide)) HD _).mono ?_
  rintro e w' ⟨rfl, rfl⟩
  go_wp2_with fail
  refine (rCut_top x 25 33554432 32 25 x0 x1 rfl (by omega) (tw 25 33554432 (by decide)) HU _).mono ?_
  rintro e w' ⟨rfl, rfl⟩
  go_wp2_with fail
  refine (pick_c _ q _ _ _ _ _ _ _ _ ?_ ?_ ?_ ?_ ?_ HQ).mono ?_
  · rfl
  · simp
  · omega
  · rfl
  · rfl
  rintro e w1 ⟨rfl, hb⟩
  go_wp2_with fail
  go_ret2
  exact ⟨rfl, hb⟩

theorem rform_c51c (x D q : Int) (x0 : 0 ≤ x) (x1 : x ≤ 4294967295) (HL : Hid ((51 : Int) = x / 1 % 128)) (HD : Hid ((D : Int) = x / 4096 % 8)) (HU : Hid ((1 : Int) = x / 33554432)) (d0 : 0 ≤ D) (d1 : D < 8) (HQ : Hid (q = pk (D) (p64 #[.int .i64 0, .int .i64 1, .int .i64 2, .int .i64 3, .int .i64 4, .int .i64 5, .int .i64 6, .int .i64 7]) (p64 #[.int .i64 38, .int .i64 39, .int .i64 40, .int .i64 41, .int .i64 42, .int .i64 43, .int .i64 44, .int .i64 45]) 0 8)) (w : World) :
    Calls Tryd.prog 27 #[.int .u32 x] w fun e w' => e = .returned (.tuple #[.int .i64 q, .int .u8 82]) ∧ Below w.heap.size w w' := by
  go_enter Tryd.func27, Tryd.ntmps27
  go_wp2_with fail
  refine (rCut_mid x 0 6 1 128 51 0 7 x0 x1 (by omega) (by omega) (by omega) (by omega) rfl (by omega) (tw 0 1 (by decide)) rfl (by omega) (tw 7 128 (by decide)) HL _).mono ?_
  rintro e w' ⟨rfl, rfl⟩
  go_wp2_with fail
  refine (rCut_mid x 12 14 4096 8 D 12 3 x0 x1 (by omega) (by omega) (by omega) (by omega) rfl (by omega) (tw 12 4096 (by decide)) rfl (by omega) (tw 3 8 (by decide)) HD _).mono ?_
  rintro e w' ⟨rfl, rfl⟩
  go_wp2_with fail
  refine (rCut_top x 25 33554432 1 25 x0 x1 rfl (by omega) (tw 25 33554432 (by decide)) HU _).mono ?_
  rintro e w' ⟨rfl, rfl⟩
  go_wp2_with fail
  refine (pick_c _ q _ _ _ _ _ _ _ _ ?_ ?_ ?_ ?_ ?_ HQ).mono ?_
  · rfl
  · simp
  · omega
  · rfl
  · rfl
  rintro e w1 ⟨rfl, hb⟩
  go_wp2_with fail
  go_ret2
  exact ⟨rfl, hb⟩

theorem rform_c51d (x D U : Int) (x0 : 0 ≤ x) (x1 : x ≤ 4294967295) (HL : Hid ((51 : Int) = x / 1 % 128)) (HD : Hid ((D : Int) = x / 4096 % 8)) (HU : Hid ((U : Int) = x / 33554432)) (d0 : 0 ≤ D) (d1 : D < 8) (u0 : 0 ≤ U) (u1 : U < 128) (nu0 : ¬ U = 0) (nu32 : ¬ U = 32) (nu1 : ¬ U = 1) (w : World) :
    Calls Tryd.prog 27 #[.int .u32 x] w fun e w' => e = .returned (.tuple #[.int .i64 (-1), .int .u8 69]) ∧ Below w.heap.size w w' := by
  go_enter Tryd.func27, Tryd.ntmps27
  go_wp2_with fail
  refine (rCut_mid x 0 6 1 128 51 0 7 x0 x1 (by omega) (by omega) (by omega) (by omega) rfl (by omega) (tw 0 1 (by decide)) rfl (by omega) (tw 7 128 (by decide)) HL _).mono ?_
  rintro e w' ⟨rfl, rfl⟩
  go_wp2_with fail
  refine (rCut_mid x 12 14 4096 8 D 12 3 x0 x1 (by omega) (by omega) (by omega) (by omega) rfl (by omega) (tw 12 4096 (by decide)) rfl (by omega) (tw 3 8 (by decide)) HD _).mono ?_
  rintro e w' ⟨rfl, rfl⟩
  go_wp2_with fail
  refine (rCut_top x 25 33554432 U 25 x0 x1 rfl (by omega) (tw 25 33554432 (by decide)) HU _).mono ?_
  rintro e w' ⟨rfl, rfl⟩
  go_wp2_with fail
  go_ret2
  exact ⟨rfl, Below.refl _ _⟩

theorem rform_c15 (x D U q : Int) (x0 : 0 ≤ x) (x1 : x ≤ 4294967295) (HL : Hid ((15 : Int) = x / 1 % 128)) (HD : Hid ((D : Int) = x / 4096 % 8)) (HU : Hid ((U : Int) = x / 33554432)) (d0 : 0 ≤ D) (d1 : D < 8) (u0 : 0 ≤ U) (u1 : U < 128) (HQ : Hid (q = pk (D) (p64 #[.int .i64 0]) (p64 #[.int .i64 46]) 0 1)) (w : World) :
    Calls Tryd.prog 27 #[.int .u32 x] w fun e w' => e = .returned (.tuple #[.int .i64 q, .int .u8 73]) ∧ Below w.heap.size w w' := by
  go_enter Tryd.func27, Tryd.ntmps27
  go_wp2_with fail
  refine (rCut_mid x 0 6 1 128 15 0 7 x0 x1 (by omega) (by omega) (by omega) (by omega) rfl (by omega) (tw 0 1 (by decide)) rfl (by omega) (tw 7 128 (by decide)) HL _).mono ?_
  rintro e w' ⟨rfl, rfl⟩
  go_wp2_with fail
  refine (rCut_mid x 12 14 4096 8 D 12 3 x0 x1 (by omega) (by omega) (by omega) (by omega) rfl (by omega) (tw 12 4096 (by decide)) rfl (by omega) (tw 3 8 (by decide)) HD _).mono ?_
  rintro e w' ⟨rfl, rfl⟩
  go_wp2_with fail
  refine (rCut_top x 25 33554432 U 25 x0 x1 rfl (by omega) (tw 25 33554432 (by decide)) HU _).mono ?_
  rintro e w' ⟨rfl, rfl⟩
  go_wp2_with fail
  refine (pick_c _ q _ _ _ _ _ _ _ _ ?_ ?_ ?_ ?_ ?_ HQ).mono ?_
  · rfl
  · simp
  · omega
  · rfl
  · rfl
  rintro e w1 ⟨rfl, hb⟩
  go_wp2_with fail
  go_ret2
  exact ⟨rfl, hb⟩

theorem rform_c115 (x D U q : Int) (x0 : 0 ≤ x) (x1 : x ≤ 4294967295) (HL : Hid ((115 : Int) = x / 1 % 128)) (HD : Hid ((D : Int) = x / 4096 % 8)) (HU : Hid ((U : Int) = x / 33554432)) (d0 : 0 ≤ D) (d1 : D < 8) (u0 : 0 ≤ U) (u1 : U < 128) (HQ : Hid (q = pk (x) (p64 #[.int .i64 115, .int .i64 1048691]) (p64 #[.int .i64 47, .int .i64 48]) 0 2)) (w : World) :
    Calls Tryd.prog 27 #[.int .u32 x] w fun e w' => e = .returned (.tuple #[.int .i64 q, .int .u8 69]) ∧ Below w.heap.size w w' := by
  go_enter Tryd.func27, Tryd.ntmps27
  go_wp2_with fail
  refine (rCut_mid x 0 6 1 128 115 0 7 x0 x1 (by omega) (by omega) (by omega) (by omega) rfl (by omega) (tw 0 1 (by decide)) rfl (by omega) (tw 7 128 (by decide)) HL _).mono ?_
  rintro e w' ⟨rfl, rfl⟩
  go_wp2_with fail
  refine (rCut_mid x 12 14 4096 8 D 12 3 x0 x1 (by omega) (by omega) (by omega) (by omega) rfl (by omega) (tw 12 4096 (by decide)) rfl (by omega) (tw 3 8 (by decide)) HD _).mono ?_
  rintro e w' ⟨rfl, rfl⟩
  go_wp2_with fail
  refine (rCut_top x 25 33554432 U 25 x0 x1 rfl (by omega) (tw 25 33554432 (by decide)) HU _).mono ?_
  rintro e w' ⟨rfl, rfl⟩
  go_wp2_with fail
  refine (pick_c _ q _ _ _ _ _ _ _ _ ?_ ?_ ?_ ?_ ?_ HQ).mono ?_
  · rfl
  · simp
  · omega
  · rfl
  · rfl
  rintro e w1 ⟨rfl, hb⟩
  go_wp2_with fail
  go_ret2
  exact ⟨rfl, hb⟩

theorem rform_celse (x L D U : Int) (x0 : 0 ≤ x) (x1 : x ≤ 4294967295) (HL : Hid ((L : Int) = x / 1 % 128)) (HD : Hid ((D : Int) = x / 4096 % 8)) (HU : Hid ((U : Int) = x / 33554432)) (l0 : 0 ≤ L) (l1 : L < 128) (n55 : ¬ L = 55) (n23 : ¬ L = 23) (n111 : ¬ L = 111) (n103 : ¬ L = 103) (n99 : ¬ L = 99) (n3 : ¬ L = 3) (n35 : ¬ L = 35) (n19 : ¬ L = 19) (n51 : ¬ L = 51) (n15 : ¬ L = 15) (n115 : ¬ L = 115) (d0 : 0 ≤ D) (d1 : D < 8) (u0 : 0 ≤ U) (u1 : U < 128) (w : World) :
    Calls Tryd.prog 27 #[.int .u32 x] w fun e w' => e = .returned (.tuple #[.int .i64 (-1), .int .u8 69]) ∧ Below w.heap.size w w' := by
  go_enter Tryd.func27, Tryd.ntmps27
  go_wp2_with fail
  refine (rCut_mid x 0 6 1 128 L 0 7 x0 x1 (by omega) (by omega) (by omega) (by omega) rfl (by omega) (tw 0 1 (by decide)) rfl (by omega) (tw 7 128 (by decide)) HL _).mono ?_
  rintro e w' ⟨rfl, rfl⟩
  go_wp2_with fail
  refine (rCut_mid x 12 14 4096 8 D 12 3 x0 x1 (by omega) (by omega) (by omega) (by omega) rfl (by omega) (tw 12 4096 (by decide)) rfl (by omega) (tw 3 8 (by decide)) HD _).mono ?_
  rintro e w' ⟨rfl, rfl⟩
  go_wp2_with fail
  refine (rCut_top x 25 33554432 U 25 x0 x1 rfl (by omega) (tw 25 33554432 (by decide)) HU _).mono ?_
  rintro e w' ⟨rfl, rfl⟩
  go_wp2_with fail
  go_ret2
  exact ⟨rfl, Below.refl _ _⟩
end Go.Proofs.YtpiohehijkpghaaDoor
