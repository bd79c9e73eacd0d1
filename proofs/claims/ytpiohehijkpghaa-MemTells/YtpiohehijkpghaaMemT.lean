/- For every bytes, load, store, place and word the program's answers are the document's: walked. -/
import Derived.Test.YtpiohehijkpghaaMemP
namespace Go.Proofs.Ytpiohehijkpghaa
open Go.RowKit
open Hy
set_option linter.unusedVariables false

set_option maxHeartbeats 1000000 in
theorem Tells_no (p : Option Addr) (n c : Nat) (op : Int) (a : Nat) (W : Int) (xs : List Int) (hx : xs.length = n) (hnc : n ≤ c) (hn : n ≤ 140737488355328) (a1 : a ≤ 4294967295) (w : World) (h : Lib.BytesIn w p n xs) (hb : ∀ x ∈ xs, 0 ≤ x ∧ x < 256)
    (ho : ¬ (0 < stn op ∧ (a : Int) % stn op = 0 ∧ (a : Int) + stn op ≤ n)) :
    Calls Try.prog 5 #[.slice p n c, .int .i64 op, .int .u32 a, .int .u32 W] w fun e w' => e = .returned (.bool true) ∧ Below w.heap.size w w' := by
  obtain ⟨V, b, C1, C2⟩ := Loads p n c op a xs hx hnc hn a1 w h hb
  have C3 := Store_no p n c op a W hn (by omega) (by omega) ho w
  have C4 := tStore_no p n c op a W hn (by omega) (by omega) ho w
  have C5 := Bytes_same none none 0 0 0 [] rfl w (Lib.BytesIn.nil _ _ _) (Lib.BytesIn.nil _ _ _)
  have q1 : (V == V) = true := beq_self_eq_true V
  have q2 : (b == b) = true := beq_self_eq_true b
  clear h ho hb
  go_enter Try.func5, Try.ntmps5
  go_wp2_with fail
  refine C1.mono ?_
  rintro e w' ⟨rfl, rfl⟩
  go_wp2_with fail
  refine C3.mono ?_
  rintro e w' ⟨rfl, rfl⟩
  go_wp2_with fail
  refine (C2 _ (Below.refl _ _)).mono ?_
  rintro e w' ⟨rfl, rfl⟩
  go_wp2_with fail
  refine C4.mono ?_
  rintro e w' ⟨rfl, rfl⟩
  go_wp2_with fail
  refine C5.mono ?_
  rintro e w' ⟨rfl, rfl⟩
  go_wp2_with fail
  go_ret
  exact ⟨rfl, Below.refl _ _⟩

set_option maxHeartbeats 1000000 in
theorem Tells_yes (p : Option Addr) (n c : Nat) (op : Int) (a : Nat) (W : Int) (xs : List Int) (hx : xs.length = n) (hnc : n ≤ c) (hn : n ≤ 140737488355328) (a1 : a ≤ 4294967295) (W0 : 0 ≤ W) (W1 : W ≤ 4294967295) (w : World) (h : Lib.BytesIn w p n xs) (hb : ∀ x ∈ xs, 0 ≤ x ∧ x < 256)
    (ho : 0 < stn op ∧ (a : Int) % stn op = 0 ∧ (a : Int) + stn op ≤ n) :
    Calls Try.prog 5 #[.slice p n c, .int .i64 op, .int .u32 a, .int .u32 W] w fun e w' => e = .returned (.bool true) ∧ Below w.heap.size w w' := by
  obtain ⟨V, b, C1, C2⟩ := Loads p n c op a xs hx hnc hn a1 w h hb
  obtain ⟨m, hm⟩ := Int.eq_ofNat_of_zero_le (show 0 ≤ stn op by omega)
  rw [hm] at ho
  obtain ⟨g, o, rfl, hc⟩ := h.at (by omega)
  have hL : Lies w g o n (fun i => xs.getD i 0) := hc
  have C3 := Store_any g o n c op a m W _ hm hn a1 (by omega) (by omega) (by omega) hnc W0 W1 w hL
  have C4 := fun w1 hb1 => tStore_any g o n c op a m W _ hm hn a1 (by omega) (by omega) (by omega) hnc W0 W1 w1 (hL.below hb1)
  have q1 : (V == V) = true := beq_self_eq_true V
  have q2 : (b == b) = true := beq_self_eq_true b
  clear h hb hc hL hm
  go_enter Try.func5, Try.ntmps5
  go_wp2_with fail
  refine C1.mono ?_
  rintro e w' ⟨rfl, rfl⟩
  go_wp2_with fail
  refine C3.mono ?_
  rintro e w1 ⟨⟨h1, cap1, rfl, _, hF1⟩, hB1⟩
  go_wp2_with fail
  refine (C2 _ hB1).mono ?_
  rintro e w1' ⟨rfl, hw⟩
  subst hw
  go_wp2_with fail
  refine (C4 _ hB1).mono ?_
  rintro e w2 ⟨⟨h2, cap2, rfl, _, hF2⟩, hB2⟩
  go_wp2_with fail
  refine (Bytes_same _ _ n cap1 cap2 _ (by simp) w2 (hF1.below hB2).bytes hF2.bytes).mono ?_
  rintro e w2' ⟨rfl, hw⟩
  subst hw
  go_wp2_with fail
  go_ret
  exact ⟨rfl, hB1.trans (hB2.mono hB1.size)⟩

theorem Tells (p : Option Addr) (n c : Nat) (op : Int) (a W : Int) (xs : List Int) (hx : xs.length = n) (hnc : n ≤ c) (hn : n ≤ 140737488355328) (a0 : 0 ≤ a) (a1 : a ≤ 4294967295) (W0 : 0 ≤ W) (W1 : W ≤ 4294967295) (w : World) (h : Lib.BytesIn w p n xs) (hb : ∀ x ∈ xs, 0 ≤ x ∧ x < 256) :
    Calls Try.prog 5 #[.slice p n c, .int .i64 op, .int .u32 a, .int .u32 W] w fun e w' => e = .returned (.bool true) ∧ Below w.heap.size w w' := by
  obtain ⟨k, rfl⟩ := Int.eq_ofNat_of_zero_le a0
  by_cases ho : 0 < stn op ∧ (k : Int) % stn op = 0 ∧ (k : Int) + stn op ≤ n
  · exact Tells_yes p n c op k W xs hx hnc hn (by omega) W0 W1 w h hb ho
  · exact Tells_no p n c op k W xs hx hnc hn (by omega) w h hb ho
end Go.Proofs.Ytpiohehijkpghaa
