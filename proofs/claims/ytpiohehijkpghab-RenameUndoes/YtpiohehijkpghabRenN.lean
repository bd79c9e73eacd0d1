/- How often a number is one of a map's, and whether there may be such a map: the document. -/
import Derived.Test.YtpiohehijkpghabRenI
namespace Go.Proofs.Ytpiohehijkpghab
open Go.RowKit Go.Maps
open Hy
set_option linter.unusedVariables false
theorem one_box {Φ : World → Prop} {w : World} {A : Obj} (h : ∀ W : World, W.heap[w.heap.size]? = some A → Below w.heap.size w W → Φ W) : Φ (w.alloc A) := h _ (heap_alloc_new _ _) ((Below.refl _ _).alloc (Nat.le_refl _) _)
set_option maxRecDepth 20000 in
set_option maxHeartbeats 1000000 in
theorem zmany_any (T : Array Value) (P : Int) (r f : Nat → Int) (a : Option Addr) (n c : Nat) (x : Int) (hT : Hid (T = mcs P r (.slice a n c)))
    (hF : T[33]? = some (.slice a n c)) (hn : n ≤ 140737488355328) (w : World) (hL : Hid (Lie w a n c f)) :
    Calls Try.prog 57 #[.agg T, .int .i64 x] w fun e w' => e = .returned (.int .i64 (cn (jn r f) x (32 + n))) ∧ Below w.heap.size w w' := by
  go_enter Try.func57, Try.ntmps57
  go_upto_region 1 with fail
  refine one_box (Φ := fun W => Code.wp _ _ _ _ W) ?_
  intro W HR' HB'
  have HR : Hid (W.heap[w.heap.size]? = some (.cells T 42 (0, 0))) := HR'
  have HB : Hid (Below w.heap.size w W) := HB'
  clear HR' HB'
  go_wp2_with fail
  go_loopw [5, 6] (fun v i wr => ∃ k : Nat, ∃ q : Int, k ≤ 32 ∧ i = .int .i64 k ∧ v = .int .i64 q ∧ q = cn (jn r f) x k ∧ wr = W)
    (fun _ i _ => 32 - (intOf i).toNat)
  case atStart => exact ⟨0, 0, by omega, rfl, rfl, rfl, rfl⟩
  case round =>
    obtain ⟨k, q, hk, rfl, rfl, hq, rfl⟩ := hrel
    have hle := cn_le (jn r f) x k
    have q0 : 0 ≤ q := by omega
    have q1 : q ≤ 32 := by omega
    have Hq : Hid (q = cn (jn r f) x k) := hq
    clear hq
    by_cases hlt : k < 32
    · have cR : wr.cell? ⟨w.heap.size, 1 + k, none⟩ = some (.int .i64 (r k)) := (cell_of_row _ w.heap.size _ _ _ _ HR.out).trans (by rw [hT.out]; exact mcs_R _ _ _ _ hlt)
      go_wp2_with fail
      all_goals have hst : cn (jn r f) x (k + 1) = cn (jn r f) x (k) + (if jn r f (k) = x then 1 else 0) := rfl
      all_goals rw [jn_r hlt] at hst
      all_goals first | (have h1 : r k = x := by simpa using (by assumption : (r k == x) = true)) | (have h1 : ¬ r k = x := by simpa using (by assumption : (r k == x) = false))
      all_goals first | rw [if_pos h1] at hst | rw [if_neg h1] at hst
      all_goals exact ⟨⟨k + 1, _, by omega, by go_num, rfl, by rw [hst, Hq.out]; simp, trivial⟩, by simp [intOf]; omega⟩
    · have : k = 32 := by omega
      subst this
      rw [show ((32 : Nat) : Int) = 32 from rfl]
      have c33 : wr.cell? ⟨w.heap.size, 33, none⟩ = some (.slice a n c) := (cell_of_row _ w.heap.size _ _ _ _ HR.out).trans hF
      go_wp2_with fail
      have HQ0 : Hid (q = cn (jn r f) x 32) := Hq
      generalize hV : wr = V at *
      clear hV
      go_loopw [5, 7] (fun v i wr => ∃ k : Nat, ∃ q : Int, k ≤ n ∧ i = .int .i64 k ∧ v = .int .i64 q ∧ Hid (q = cn (jn r f) x (32 + k)) ∧ wr = V)
        (fun _ i _ => n - (intOf i).toNat)
      case atStart => exact ⟨0, q, by omega, rfl, rfl, HQ0, rfl⟩
      case round =>
        obtain ⟨k, q, hk, rfl, rfl, Hq, rfl⟩ := hrel
        have hle := cn_le (jn r f) x (32 + k)
        have q0 : 0 ≤ q := by rw [Hq.out]; omega
        have q1 : q ≤ 140737488355360 := by rw [Hq.out]; omega
        by_cases hlt : k < n
        · have hlt' : (k : Int) < n := by omega
          obtain ⟨b, o, rfl, hb, hc⟩ := hL.out.sure (by omega)
          have cF : wr.cell? ⟨b, o + k, none⟩ = some (.int .i64 (f k)) := (HB.out.cell (p := ⟨b, o + k, none⟩) hb).trans (hc k hlt)
          clear hc
          go_wp2_with fail
          all_goals have hst : cn (jn r f) x (32 + k + 1) = cn (jn r f) x (32 + k) + (if jn r f (32 + k) = x then 1 else 0) := rfl
          all_goals rw [jn_f k] at hst
          all_goals first | (have h1 : f k = x := by simpa using (by assumption : (f k == x) = true)) | (have h1 : ¬ f k = x := by simpa using (by assumption : (f k == x) = false))
          all_goals first | rw [if_pos h1] at hst | rw [if_neg h1] at hst
          all_goals exact ⟨⟨k + 1, _, by omega, by go_num, rfl, by show _ = _; rw [← Nat.add_assoc, hst, Hq.out]; simp, trivial⟩, by simp [intOf]; omega⟩
        · have : k = n := by omega
          subst this
          go_wp2_with fail
          go_ret
          exact ⟨by rw [← Hq.out]; rfl, HB.out⟩
end Go.Proofs.Ytpiohehijkpghab
