/- Whether a number is none of a map's: the program. -/
import Derived.Test.YtpiohehijkpghabRenE
namespace Go.Proofs.Ytpiohehijkpghab
open Go.RowKit Go.Maps
open Hy
set_option linter.unusedVariables false
set_option maxRecDepth 20000 in
set_option maxHeartbeats 1000000 in
theorem nidle_any (T : Array Value) (P : Int) (r f : Nat → Int) (a : Option Addr) (n c : Nat) (x : Int) (b : Bool) (hT : Hid (T = mcs P r (.slice a n c))) (hb : Hid (b = true ↔ Idle P n r f x))
    (h0 : T[0]? = some (.int .i64 P)) (hF : T[33]? = some (.slice a n c)) (hR : Hid (Rg r)) (hn : n ≤ 64) (hP : P ≤ 96) (w : World) (hL : Hid (Lie w a n c f)) :
    Calls Try.prog 60 #[.agg T, .int .i64 x] w fun e w' => e = .returned (.bool b) ∧ Below w.heap.size w w' := by
  have C2 := fun w => nused_any T P r f a n c hT hF hR hn w
  have HI : Hid ((Try.prog.info? 42).map (·.size) = some T.size) := map_info hT.out
  by_cases hp : 0 ≤ x ∧ x < P
  · obtain ⟨x0, x1⟩ := hp
    go_enter Try.func60, Try.ntmps60
    go_upto_region 1 with fail
    generalize hW : w.alloc (Obj.cells T 42) = W
    have HR0 : Hid (W.heap[w.heap.size]? = some (.cells T 42 (0, 0))) := by rw [← hW]; show _ = _; exact heap_alloc_new _ _
    have HB0 : Hid (Below w.heap.size w W) := by rw [← hW]; exact (Below.refl _ _).alloc (Nat.le_refl _) _
    have c0 : W.cell? ⟨w.heap.size, 0, none⟩ = some (.int .i64 P) := (cell_of_row W w.heap.size _ _ _ _ HR0.out).trans h0
    have c33 : W.cell? ⟨w.heap.size, 33, none⟩ = some (.slice a n c) := (cell_of_row W w.heap.size _ _ _ _ HR0.out).trans hF
    clear hW
    go_wp2_with (refine wpList_load_row_g (by rfl) 42 _ rfl _ rfl 42 _ (0, 0) _ HR0.out Try.underlying42 rfl HI.out ?_)
    refine (C2 _ (hL.out.below (Nat.le_refl _) HB0.out)).mono ?_
    rintro e W1 ⟨B, D, rfl, hown, hcn, hk⟩
    have HB1 : Hid (Below w.heap.size w W1) := HB0.out.trans (hk.mono HB0.out.size)
    clear hk HR0 HB0 c0 c33
    have hkey : keyOf Try.prog 3 (.int .i64 x) = some (.int .i64 x) := keyOf_int_mk Try.underlying3 (WalkArith.wf_i64 (by omega))
    go_wp2_with (at_lookup; refine wpList_lookup_g _ (by rfl) _ _ 85 rfl 3 3 .i64 law3 Try.underlying85 Try.underlying3 (zero3 _) B (32 + n) _ rfl hown _ _ rfl hkey ?_; intro q hat hwc)
    have hq := hcn.num hat
    go_ret
    refine ⟨congrArg (fun x => Ending.returned (Value.bool x)) (?_ : _ = b), HB1.out⟩
    rw [Bool.eq_iff_iff, hb.out]
    constructor
    · intro h
      exact ⟨x0, x1, by simp at h; omega⟩
    · intro h
      have := h.no
      simp; omega
  · have hbf : b = false := by
      cases b
      · rfl
      · have := hb.out.1 rfl
        exact absurd ⟨this.lo, this.hi⟩ hp
    subst hbf
    by_cases x0 : 0 ≤ x
    · have x1 : decide (x < P) = false := by simp; omega
      go_enter Try.func60, Try.ntmps60
      go_upto_region 1 with fail
      generalize hW : w.alloc (Obj.cells T 42) = W
      have HR0 : Hid (W.heap[w.heap.size]? = some (.cells T 42 (0, 0))) := by rw [← hW]; show _ = _; exact heap_alloc_new _ _
      have HB0 : Hid (Below w.heap.size w W) := by rw [← hW]; exact (Below.refl _ _).alloc (Nat.le_refl _) _
      have c0 : W.cell? ⟨w.heap.size, 0, none⟩ = some (.int .i64 P) := (cell_of_row W w.heap.size _ _ _ _ HR0.out).trans h0
      clear hW
      go_wp2_with (refine wpList_skip (by rfl) ?_)
      go_ret
      exact ⟨rfl, HB0.out⟩
    · go_enter Try.func60, Try.ntmps60
      go_upto_region 1 with fail
      generalize hW : w.alloc (Obj.cells T 42) = W
      have HR0 : Hid (W.heap[w.heap.size]? = some (.cells T 42 (0, 0))) := by rw [← hW]; show _ = _; exact heap_alloc_new _ _
      have HB0 : Hid (Below w.heap.size w W) := by rw [← hW]; exact (Below.refl _ _).alloc (Nat.le_refl _) _
      have c0 : W.cell? ⟨w.heap.size, 0, none⟩ = some (.int .i64 P) := (cell_of_row W w.heap.size _ _ _ _ HR0.out).trans h0
      clear hW
      go_wp2_with (refine wpList_skip (by rfl) ?_)
      go_ret
      exact ⟨rfl, HB0.out⟩
end Go.Proofs.Ytpiohehijkpghab
