/- What slices.Concat comes to, of two slices of numbers. -/
import Derived.Test.YtpiohehijkpghabRenG
namespace Go.Proofs.Ytpiohehijkpghab
open Go.RowKit Go.Maps
open Hy
set_option linter.unusedVariables false
set_option maxRecDepth 20000 in
set_option maxHeartbeats 1000000 in
theorem iConcat_two (q : Nat) (a1 a2 : Option Addr) (n1 c1 n2 c2 : Nat) (f1 f2 : Nat → Int) (h0 : 0 < n1 + n2) (hn : n1 + n2 ≤ 1000) (w : World)
    (hq : q < w.heap.size) (k0 : w.cell? ⟨q, 0, none⟩ = some (.slice a1 n1 c1)) (k1 : w.cell? ⟨q, 1, none⟩ = some (.slice a2 n2 c2)) (hL1 : Hid (Lie w a1 n1 c1 f1)) (hL2 : Hid (Lie w a2 n2 c2 f2)) :
    Calls Try.prog 61 #[.slice (some ⟨q, 0, none⟩) 2 2] w fun e w' => (∃ a' c', e = .returned (.slice a' (n1 + n2) c') ∧ Lie w' a' (n1 + n2) c' (cat f1 n1 f2) ∧ Far w.heap.size a') ∧ Below w.heap.size w w' := by
  obtain ⟨i0, hi, hz0, hz1, hz2⟩ := info_parts info3
  have C := fun w => iGrow_nil (n1 + n2) h0 hn w f1
  simp only [Int.natCast_add] at C
  go_enter Try.func61, Try.ntmps61
  go_wp2_with fail
  refine wp_loop_rounds 3 ?_
  rw [rounds_succ]
  go_wp2_with fail
  rw [rounds_succ]
  go_wp2_with fail
  rw [rounds_succ]
  go_wp2_with fail
  refine (C _).mono ?_
  rintro e W1 ⟨⟨v, rfl, hown⟩, hk⟩
  have j0 : W1.cell? ⟨q, 0, none⟩ = some (.slice a1 n1 c1) := (hk.cell (p := ⟨q, 0, none⟩) hq).trans k0
  have j1 : W1.cell? ⟨q, 1, none⟩ = some (.slice a2 n2 c2) := (hk.cell (p := ⟨q, 1, none⟩) hq).trans k1
  have HO : Hid (W1.ownsRow w.heap.size 3 1 v 0 (row f1 0)) := hown
  have HK : Hid (Below w.heap.size w W1) := hk
  clear hown hk k0 k1 C
  go_wp2_with fail
  refine wp_loop_rounds 3 ?_
  rw [rounds_succ]
  go_wp2_with (at_builtin; refine wpList_append_lie _ rfl _ _ 40 rfl w.heap.size 3 i0 Try.underlying40 hi hz0 hz1 hz2 _ 0 f1 rfl HO.out _ n1 c1 f1 rfl (hL1.out.below (Nat.le_refl _) HK.out) (by omega) HK.out.size ?_; intro v1 w1 hown1 hgrow1)
  have m1 : w1.cell? ⟨q, 1, none⟩ = some (.slice a2 n2 c2) := hgrow1.cell j1 (by intro e; have h : w.heap.size ≤ q := (HO.out.lt _ e.symm).1; omega)
  have HO1 : Hid (w1.ownsRow w.heap.size 3 1 v1 n1 (row f1 n1)) := by
    show w1.ownsRow _ _ _ _ _ _
    rw [row_congr (f' := cat f1 0 f1) (fun i _ => by simp [cat]), ← Nat.zero_add n1]
    simpa using hown1
  have HK1 : Hid (Below w.heap.size w w1) := HK.out.grown hgrow1 HK.out.size (fun k hk => (HO.out.lt k hk).1)
  clear hown1 hgrow1 HO HK j0 j1
  rw [rounds_succ]
  go_wp2_with (at_builtin; refine wpList_append_lie _ rfl _ _ 40 rfl w.heap.size 3 i0 Try.underlying40 hi hz0 hz1 hz2 _ n1 f1 rfl HO1.out _ n2 c2 f2 rfl (hL2.out.below (Nat.le_refl _) HK1.out) (by omega) HK1.out.size ?_; intro v2 w2 hown2 hgrow2)
  have HK2 : Hid (Below w.heap.size w w2) := HK1.out.grown hgrow2 HK1.out.size (fun k hk => (HO1.out.lt k hk).1)
  have HO2 : Hid (w2.ownsRow w.heap.size 3 1 v2 (n1 + n2) (row (cat f1 n1 f2) (n1 + n2))) := hown2
  clear hown2 hgrow2
  rw [rounds_succ]
  go_wp2_with fail
  go_ret
  obtain ⟨a', c', rfl, a3⟩ := lie_of_own HO2.out (fun i hi => by
    unfold cat
    split
    · exact hL1.out.wf i (by omega)
    · exact hL2.out.wf _ (by omega))
  exact ⟨⟨a', c', rfl, a3⟩, HK2.out⟩
end Go.Proofs.Ytpiohehijkpghab
