/- What the program guesses. -/
import Derived.Test.YtoajbcigenjmmabGueB
namespace Go.Proofs.Ytoajbcigenjmmab
open Go.RowKit
open Hy
set_option linter.unusedVariables false
set_option maxRecDepth 20000 in
set_option maxHeartbeats 1000000 in
theorem gBranch_any (T : Array Value) (pc : Int) (p0 : 0 ≤ pc) (p1 : pc ≤ 4294967295) (L G : Int) (B : Bool) (k : Nat) (hk : k < 16) (he : Hid ((k : Int) = pc / 4 % 16)) (hB : Hid (B = decide (2 ≤ L)))
   (hL : T[k * 2]? = some (.int .i64 L)) (hG : T[k * 2 + 1]? = some (.int .u32 G)) (w : World) :
    Calls Try.prog 6 #[.agg T, .int .u32 pc] w fun e w' => e = .returned (.tuple #[.bool B, .int .u32 G]) ∧ Below w.heap.size w w' := by
  have C := gcounterOf_any pc p0 p1
  rw [← he.out] at C
  have k0 : (0 : Int) ≤ (k : Int) := by omega
  have k1 : (k : Int) < 16 := by omega
  go_enter Try.func6, Try.ntmps6
  go_wp2_with fail
  refine (C _).mono ?_
  rintro e w' ⟨rfl, rfl⟩
  go_wp2_with fail
  go_region
  go_wp2_with fail
  go_ret2
  exact ⟨by rw [hB.out]; rfl, (((Below.refl _ _).alloc (Nat.le_refl _) _).alloc (by simp) _).drew⟩

set_option maxRecDepth 20000 in
set_option maxHeartbeats 1000000 in
theorem xBranch_any (T : Array Value) (pc : Int) (p0 : 0 ≤ pc) (p1 : pc ≤ 4294967295) (L G : Int) (B : Bool) (k : Nat) (hk : k < 16) (he : Hid ((k : Int) = pc / 4 % 16)) (hB : Hid (B = decide (2 ≤ L)))
   (hL : T[k * 2]? = some (.int .i64 L)) (hG : T[k * 2 + 1]? = some (.int .u32 G)) (w : World) :
    Calls Try.prog 7 #[.agg T, .int .u32 pc] w fun e w' => e = .returned (.tuple #[.bool B, .int .u32 G]) ∧ Below w.heap.size w w' := by
  have C := xplace_any pc 16 p0 p1 (.inr rfl)
  rw [← he.out] at C
  have k0 : (0 : Int) ≤ (k : Int) := by omega
  have k1 : (k : Int) < 16 := by omega
  obtain ⟨b, hb⟩ : ∃ b, b = bnd L := ⟨_, rfl⟩
  have D := xbound_any L
  rw [← hb] at D
  have HB : Hid (b = bnd L) := hb
  clear hb
  go_enter Try.func7, Try.ntmps7
  go_wp2_with fail
  refine (C _).mono ?_
  rintro e w' ⟨rfl, rfl⟩
  go_wp2_with fail
  go_quiet (first | (go_at_call 18; exact Calls.quiet_of_same (D _)))
  go_wp2_with fail
  go_ret2
  refine ⟨?_, below_drewN (((Below.refl _ _).alloc (Nat.le_refl _) _).alloc (by simp) _) _⟩
  rw [hB.out]
  show _ = Ending.returned (.tuple #[.bool (decide (2 ≤ L)), .int .u32 G])
  rw [← bnd2 L, ← HB.out]
  rfl

set_option maxRecDepth 20000 in
set_option maxHeartbeats 1000000 in
theorem gValue_any (T : Array Value) (pc : Int) (p0 : 0 ≤ pc) (p1 : pc ≤ 4294967295) (P A S U V : Int) (B : Bool) (a0 : 0 ≤ A) (a1 : A ≤ 4294967295) (s0 : 0 ≤ S) (s1 : S ≤ 4294967295) (k : Nat) (hk : k < 8) (he : Hid ((k : Int) = pc / 4 % 8))
   (hB : Hid (B = decide (P = pc ∧ 2 ≤ U))) (hV : Hid (V = if B then (A + S) % 4294967296 else 0))
   (hP : T[32 + k * 4]? = some (.int .u32 P)) (hA : T[32 + k * 4 + 1]? = some (.int .u32 A)) (hS : T[32 + k * 4 + 2]? = some (.int .u32 S)) (hU : T[32 + k * 4 + 3]? = some (.int .i64 U)) (w : World) :
    Calls Try.prog 8 #[.agg T, .int .u32 pc] w fun e w' => e = .returned (.tuple #[.int .u32 V, .bool B]) ∧ Below w.heap.size w w' := by
  have C := gvalueOf_any pc p0 p1
  rw [← he.out] at C
  have k0 : (0 : Int) ≤ (k : Int) := by omega
  have k1 : (k : Int) < 8 := by omega
  go_enter Try.func8, Try.ntmps8
  go_wp2_with fail
  refine (C _).mono ?_
  rintro e w' ⟨rfl, rfl⟩
  go_wp2_with fail
  all_goals go_ret2
  all_goals (refine ⟨?_, ((Below.refl _ _).alloc (Nat.le_refl _) _).alloc (by simp) _⟩; rw [hV.out, hB.out]; simp_all)
  all_goals (intro h; omega)

set_option maxRecDepth 20000 in
set_option maxHeartbeats 1000000 in
theorem xValue_any (T : Array Value) (pc : Int) (p0 : 0 ≤ pc) (p1 : pc ≤ 4294967295) (P A S U V : Int) (B : Bool) (a0 : 0 ≤ A) (a1 : A ≤ 4294967295) (s0 : 0 ≤ S) (s1 : S ≤ 4294967295) (k : Nat) (hk : k < 8) (he : Hid ((k : Int) = pc / 4 % 8))
   (hB : Hid (B = decide (P = pc ∧ 2 ≤ U))) (hV : Hid (V = if B then (A + S) % 4294967296 else 0))
   (hP : T[32 + k * 4]? = some (.int .u32 P)) (hA : T[32 + k * 4 + 1]? = some (.int .u32 A)) (hS : T[32 + k * 4 + 2]? = some (.int .u32 S)) (hU : T[32 + k * 4 + 3]? = some (.int .i64 U)) (w : World) :
    Calls Try.prog 9 #[.agg T, .int .u32 pc] w fun e w' => e = .returned (.tuple #[.int .u32 V, .bool B]) ∧ Below w.heap.size w w' := by
  have C := xplace_any pc 8 p0 p1 (.inl rfl)
  rw [← he.out] at C
  have k0 : (0 : Int) ≤ (k : Int) := by omega
  have k1 : (k : Int) < 8 := by omega
  obtain ⟨b, hb⟩ : ∃ b, b = bnd U := ⟨_, rfl⟩
  have D := xbound_any U
  have hb2 := bnd2 U
  rw [← hb] at D hb2
  have HB : Hid (b = bnd U) := hb
  have E := xsum_any A S a0 a1 s0 s1
  clear hb
  go_enter Try.func9, Try.ntmps9
  go_wp2_with fail
  refine (C _).mono ?_
  rintro e w' ⟨rfl, rfl⟩
  by_cases hp : P = pc
  · have hb3 : 2 ≤ b ↔ 2 ≤ U := by simpa using hb2
    clear hb2
    by_cases hu : 2 ≤ U
    · have hb4 := hb3.2 hu
      clear hb3
      go_wp2_with (first | (go_at_call 18; refine (D _).mono ?_; rintro e w' ⟨rfl, rfl⟩) | (go_at_call 20; refine (E _).mono ?_; rintro e w' ⟨rfl, rfl⟩))
      go_ret2
      refine ⟨?_, ((Below.refl _ _).alloc (Nat.le_refl _) _).alloc (by simp) _⟩
      rw [hV.out, hB.out, decide_eq_true ⟨hp, hu⟩]
      rfl
    · have hb4 : b < 2 := by omega
      clear hb3
      go_wp2_with (first | (go_at_call 18; refine (D _).mono ?_; rintro e w' ⟨rfl, rfl⟩) | (go_at_call 20; refine (E _).mono ?_; rintro e w' ⟨rfl, rfl⟩))
      go_ret2
      refine ⟨?_, ((Below.refl _ _).alloc (Nat.le_refl _) _).alloc (by simp) _⟩
      rw [hV.out, hB.out, decide_eq_false (show ¬ (P = pc ∧ 2 ≤ U) by omega)]
      rfl
  · have hp' : (P == pc) = false := by simpa using hp
    go_wp2_with fail
    go_ret2
    refine ⟨?_, ((Below.refl _ _).alloc (Nat.le_refl _) _).alloc (by simp) _⟩
    rw [hV.out, hB.out, decide_eq_false (fun h => hp h.1)]
    rfl
end Go.Proofs.Ytoajbcigenjmmab
