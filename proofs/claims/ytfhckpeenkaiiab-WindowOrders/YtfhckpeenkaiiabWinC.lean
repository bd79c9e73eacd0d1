/- What slices.Concat comes to, of one slice of slots, and of two. -/
import Derived.Test.YtfhckpeenkaiiabWinB
namespace Go.Proofs.Ytfhckpeenkaiiab
open Go.RowKit
set_option linter.unusedVariables false
theorem LC.at_none {w : World} {a : Option Addr} {n c size : Nat} {cs : List Value} (h : LC w a n c size cs) (hn : n = 0) : cs = [] := List.eq_nil_of_length_eq_zero (by rw [h.len, hn, Nat.zero_mul])
theorem sGrow_any (N : Nat) (hN : N * 16 ≤ 140737488355328) (w : World) :
    Calls Try.prog 69 #[.slice none 0 0, .int .i64 N] w fun e w' => (∃ v', e = .returned v' ∧ w'.ownsRow w.heap.size 67 2 v' 0 []) ∧ Below w.heap.size w w' := by
  by_cases h : 0 < N
  · exact sGrow_nil N h hN w
  · obtain rfl : N = 0 := by omega
    exact sGrow_zero w
set_option maxRecDepth 20000 in
set_option maxHeartbeats 1000000 in
theorem sConcat_two (q : Nat) (a1 a2 : Option Addr) (n1 c1 n2 c2 : Nat) (cs1 cs2 : List Value) (hn : (n1 + n2) * 16 ≤ 140737488355328) (w : World)
    (hq : q < w.heap.size) (k0 : w.cell? ⟨q, 0, none⟩ = some (.slice a1 n1 c1)) (k1 : w.cell? ⟨q, 1, none⟩ = some (.slice a2 n2 c2)) (hL1 : Hid (LC w a1 n1 c1 2 cs1)) (hL2 : Hid (LC w a2 n2 c2 2 cs2)) :
    Calls Try.prog 60 #[.slice (some ⟨q, 0, none⟩) 2 2] w fun e w' => (∃ v', e = .returned v' ∧ w'.ownsRow w.heap.size 67 2 v' (n1 + n2) (cs1 ++ cs2)) ∧ Below w.heap.size w w' := by
  obtain ⟨i0, hi, hz0, hz1, hz2⟩ := info_parts infoSl
  have C := fun w => sGrow_any (n1 + n2) hn w
  simp only [Int.natCast_add] at C
  go_enter Try.func60, Try.ntmps60
  go_wp2_with fail
  refine wp_loop_rounds 3 ?_
  rw [rounds_succ]
  go_wp2_with fail
  rw [rounds_succ]
  go_wp2_with fail
  rw [rounds_succ]
  go_wp2_with fail
  refine (C _).mono ?_
  rintro e W1 ⟨⟨v, rfl, hown⟩, hk⟩
  have j0 : W1.cell? ⟨q, 0, none⟩ = some (.slice a1 n1 c1) := (hk.cell (p := ⟨q, 0, none⟩) hq).trans k0
  have j1 : W1.cell? ⟨q, 1, none⟩ = some (.slice a2 n2 c2) := (hk.cell (p := ⟨q, 1, none⟩) hq).trans k1
  have HO : Hid (W1.ownsRow w.heap.size 67 2 v 0 []) := hown
  have HK : Hid (Below w.heap.size w W1) := hk
  clear hown hk k0 k1 C
  go_wp2_with fail
  refine wp_loop_rounds 3 ?_
  rw [rounds_succ]
  go_wp2_with (at_builtin; refine wpList_append_lc _ rfl _ _ 57 rfl w.heap.size 67 i0 _ 2 16 Try.underlying57 hi hz0 hz1 hz2 rfl (by decide) _ 0 [] rfl HO.out _ n1 c1 cs1 rfl (hL1.out.below (Nat.le_refl _) HK.out) (by unfold maxLen; omega) (by omega) HK.out.size ?_; intro v1 w1 hown1 hgrow1)
  have m1 : w1.cell? ⟨q, 1, none⟩ = some (.slice a2 n2 c2) := hgrow1.cell j1 (by intro e; have h : w.heap.size ≤ q := (HO.out.lt _ e.symm).1; omega)
  have HO1 : Hid (w1.ownsRow w.heap.size 67 2 v1 n1 cs1) := by show World.ownsRow _ _ _ _ _ _ _; simpa using hown1
  have HK1 : Hid (Below w.heap.size w w1) := HK.out.grown hgrow1 HK.out.size (fun k hk => (HO.out.lt k hk).1)
  clear hown1 hgrow1 HO HK j0 j1
  rw [rounds_succ]
  go_wp2_with (at_builtin; refine wpList_append_lc _ rfl _ _ 57 rfl w.heap.size 67 i0 _ 2 16 Try.underlying57 hi hz0 hz1 hz2 rfl (by decide) _ n1 cs1 rfl HO1.out _ n2 c2 cs2 rfl (hL2.out.below (Nat.le_refl _) HK1.out) (by unfold maxLen; omega) (by omega) HK1.out.size ?_; intro v2 w2 hown2 hgrow2)
  have HK2 : Hid (Below w.heap.size w w2) := HK1.out.grown hgrow2 HK1.out.size (fun k hk => (HO1.out.lt k hk).1)
  have HO2 : Hid (w2.ownsRow w.heap.size 67 2 v2 (n1 + n2) (cs1 ++ cs2)) := hown2
  clear hown2 hgrow2
  rw [rounds_succ]
  go_wp2_with fail
  go_ret
  exact ⟨⟨_, rfl, HO2.out⟩, HK2.out⟩
set_option maxRecDepth 20000 in
set_option maxHeartbeats 1000000 in
theorem sConcat_one (q : Nat) (a1 : Option Addr) (n1 c1 : Nat) (cs1 : List Value) (hn : n1 * 16 ≤ 140737488355328) (w : World)
    (hq : q < w.heap.size) (k0 : w.cell? ⟨q, 0, none⟩ = some (.slice a1 n1 c1)) (hL1 : Hid (LC w a1 n1 c1 2 cs1)) :
    Calls Try.prog 60 #[.slice (some ⟨q, 0, none⟩) 1 1] w fun e w' => (∃ v', e = .returned v' ∧ w'.ownsRow w.heap.size 67 2 v' n1 cs1) ∧ Below w.heap.size w w' := by
  obtain ⟨i0, hi, hz0, hz1, hz2⟩ := info_parts infoSl
  have C := fun w => sGrow_any n1 hn w
  go_enter Try.func60, Try.ntmps60
  go_wp2_with fail
  refine wp_loop_rounds 2 ?_
  rw [rounds_succ]
  go_wp2_with fail
  rw [rounds_succ]
  go_wp2_with fail
  refine (C _).mono ?_
  rintro e W1 ⟨⟨v, rfl, hown⟩, hk⟩
  have j0 : W1.cell? ⟨q, 0, none⟩ = some (.slice a1 n1 c1) := (hk.cell (p := ⟨q, 0, none⟩) hq).trans k0
  have HO : Hid (W1.ownsRow w.heap.size 67 2 v 0 []) := hown
  have HK : Hid (Below w.heap.size w W1) := hk
  clear hown hk k0 C
  go_wp2_with fail
  refine wp_loop_rounds 2 ?_
  rw [rounds_succ]
  go_wp2_with (at_builtin; refine wpList_append_lc _ rfl _ _ 57 rfl w.heap.size 67 i0 _ 2 16 Try.underlying57 hi hz0 hz1 hz2 rfl (by decide) _ 0 [] rfl HO.out _ n1 c1 cs1 rfl (hL1.out.below (Nat.le_refl _) HK.out) (by unfold maxLen; omega) (by omega) HK.out.size ?_; intro v1 w1 hown1 hgrow1)
  have HO1 : Hid (w1.ownsRow w.heap.size 67 2 v1 n1 cs1) := by show World.ownsRow _ _ _ _ _ _ _; simpa using hown1
  have HK1 : Hid (Below w.heap.size w w1) := HK.out.grown hgrow1 HK.out.size (fun k hk => (HO.out.lt k hk).1)
  clear hown1 hgrow1 HO HK j0
  rw [rounds_succ]
  go_wp2_with fail
  go_ret
  exact ⟨⟨_, rfl, HO1.out⟩, HK1.out⟩
end Go.Proofs.Ytfhckpeenkaiiab
