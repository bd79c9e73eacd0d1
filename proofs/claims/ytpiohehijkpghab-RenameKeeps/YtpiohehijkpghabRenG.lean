/- What slices.Clone and slices.Concat come to, of numbers. -/
import Derived.Test.YtpiohehijkpghabRenF
import Derived.Lib.SliceRun
namespace Go.Proofs.Ytpiohehijkpghab
open Go.RowKit Go.Maps
open Hy
set_option linter.unusedVariables false
theorem info3 : (Try.prog.info? 3).map (fun i => (i.zero, i.size, i.bytes)) = some (some (.int .i64 0), 1, 8) := by kernel_rfl
set_option maxHeartbeats 1000000 in
theorem iClone_some (b o n c : Nat) (f : Nat → Int) (hn : n ≤ 1000) (w : World) (hL : Hid (Lie w (some ⟨b, o, none⟩) n c f)) :
    Calls Try.prog 59 #[.slice (some ⟨b, o, none⟩) n c] w fun e w' => (∃ a' c', e = .returned (.slice a' n c') ∧ Lie w' a' n c' f ∧ Far w.heap.size a') ∧ Below w.heap.size w w' := by
  obtain ⟨i0, hi, hz0, hz1, hz2⟩ := info_parts info3
  have q22 : ∀ (w : World) (a : Option Addr) (n c n' c' : Nat), (binOp .eql 40 (.slice a n c) (.slice none n' c')).run Try.prog w = .ok (.bool a.isNone) w := fun w a n c n' c' => Lib.run_eql_slice_nil w _ _ a n c n' c' Try.underlying40
  go_enter Try.func59, Try.ntmps59
  go_wp2_with (at_builtin; refine wpList_append_lie _ rfl _ _ 40 rfl w.heap.size 3 i0 Try.underlying40 hi hz0 hz1 hz2 _ 0 f rfl (World.ownsRow_made w #[] 0 (Nat.le_refl _) (Nat.zero_le _) rfl) _ n c f rfl (hL.out.below (Nat.le_refl _) ((Below.refl _ _).alloc (Nat.le_refl _) _)) (by omega) (by simp) ?_)
  intro v' w1 hown hgrow
  go_wp2
  go_ret
  have hown' : w1.ownsRow w.heap.size 3 1 v' n (row f n) := by
    rw [row_congr (f' := cat f 0 f) (fun i _ => by simp [cat]), ← Nat.zero_add n]
    simpa using hown
  obtain ⟨a', c', rfl, a3⟩ := lie_of_own hown' hL.out.wf
  exact ⟨⟨a', c', rfl, a3⟩, ((Below.refl _ w).alloc (Nat.le_refl _) _).grown hgrow (by simp) (by intro k hk; simp [Value.ownBlock] at hk; omega)⟩
theorem own_none {w : World} {B e n : Nat} {v : Value} {xs : List Value} (hn : 0 < n) (hown : w.ownsRow B e 1 v n xs) (f : Nat → Int) : ∃ g cap, v = .slice (some ⟨g, 0, none⟩) n cap ∧ n ≤ cap ∧ w.ownsRow B e 1 (.slice (some ⟨g, 0, none⟩) 0 cap) 0 (row f 0) := by
  obtain ⟨_, hcase⟩ := hown
  rcases hcase with ⟨_, h0⟩ | ⟨g, cap, cur, rfl, hg, hh, hn', hcap, hsz, htake⟩
  · omega
  · exact ⟨g, cap, rfl, hn', rfl, Or.inr ⟨g, cap, cur, rfl, hg, hh, Nat.zero_le _, hcap, hsz, by simp [row]⟩⟩
set_option maxHeartbeats 1000000 in
set_option maxRecDepth 20000 in
theorem iGrow_nil (N : Nat) (h0 : 0 < N) (hN : N ≤ 1000) (w : World) (f : Nat → Int) :
    Calls Try.prog 85 #[.slice none 0 0, .int .i64 N] w fun e w' => (∃ v', e = .returned v' ∧ w'.ownsRow w.heap.size 3 1 v' 0 (row f 0)) ∧ Below w.heap.size w w' := by
  obtain ⟨i0, hi, hz0, hz1, hz2⟩ := info_parts info3
  go_enter Try.func85, Try.ntmps85
  go_wp2
  all_goals have e8 : Try.t3.bytes = 8 := rfl
  all_goals have e9 : Builtin.nextslicecap N 0 * Try.t3.bytes ≤ 281474976710656 := growslice_fits h0 (by rw [e8]; omega)
  all_goals try (exfalso; first | omega | (simp only [e8] at *; omega))
  go_ret
  have hge := grownCap_ge w N 0 3
  have hle := grownCap_le_maxLen w N 0 3 (by unfold maxLen; omega)
  refine ⟨⟨_, rfl, World.ownsRow_made w _ _ (Nat.le_refl _) hle ?_⟩, (((Below.refl _ _).alloc (Nat.le_refl _) _).drew)⟩
  simp only [Array.size_append, size_zeroCells]
  show N * 1 + (grownCap w N 0 3 - N) * 1 = grownCap w N 0 3 * 1
  omega
end Go.Proofs.Ytpiohehijkpghab
