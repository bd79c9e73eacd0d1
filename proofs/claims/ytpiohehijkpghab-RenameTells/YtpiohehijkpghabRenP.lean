/- Whether a number is none of a map's: the document. -/
import Derived.Test.YtpiohehijkpghabRenO
namespace Go.Proofs.Ytpiohehijkpghab
open Go.RowKit Go.Maps
open Hy
set_option linter.unusedVariables false
set_option maxRecDepth 20000 in
set_option maxHeartbeats 1000000 in
theorem zother_any (T : Array Value) (P : Int) (r f : Nat → Int) (a : Option Addr) (n c : Nat) (x : Int) (b : Bool) (hT : Hid (T = mcs P r (.slice a n c))) (hb : Hid (b = true ↔ MayBe P n r f ∧ Idle P n r f x))
    (h0 : T[0]? = some (.int .i64 P)) (hF : T[33]? = some (.slice a n c)) (hn : n ≤ 140737488355328) (w : World) (hL : Hid (Lie w a n c f)) :
    Calls Try.prog 62 #[.agg T, .int .i64 x] w fun e w' => e = .returned (.bool b) ∧ Below w.heap.size w w' := by
  have HI : Hid ((Try.prog.info? 42).map (·.size) = some T.size) := map_info hT.out
  by_cases hm : MayBe P n r f
  · have C1 := fun w => zMay_any T P r f a n c true hT ⟨fun _ => hm, fun _ => rfl⟩ h0 hF hn w
    have C := fun w => zmany_any T P r f a n c x hT hF hn w
    have hcl := cn_le (jn r f) x (32 + n)
    obtain ⟨m, hm'⟩ : ∃ m : Nat, m = cn (jn r f) x (32 + n) := ⟨_, rfl⟩
    have Hm : Hid (m = cn (jn r f) x (32 + n)) := hm'
    rw [← hm'] at hcl C
    clear hm'
    go_enter Try.func62, Try.ntmps62
    go_upto_region 1 with fail
    refine one_box (Φ := fun W => Code.wp _ _ _ _ W) ?_
    intro W HR' HB'
    have HR : Hid (W.heap[w.heap.size]? = some (.cells T 42 (0, 0))) := HR'
    have HB : Hid (Below w.heap.size w W) := HB'
    clear HR' HB'
    go_wp2_with (refine wpList_load_row_g (by rfl) 42 _ rfl _ rfl 42 _ (0, 0) _ HR.out Try.underlying42 rfl HI.out ?_)
    refine (C1 _ (hL.out.below (Nat.le_refl _) HB.out)).mono ?_
    rintro e W1 ⟨rfl, hk⟩
    have HR1 : Hid (W1.heap[w.heap.size]? = some (.cells T 42 (0, 0))) := (hk.block _ (heap_lt HR.out)).trans HR.out
    have HB1 : Hid (Below w.heap.size w W1) := HB.out.trans (hk.mono HB.out.size)
    have c0 : W1.cell? ⟨w.heap.size, 0, none⟩ = some (.int .i64 P) := (cell_of_row W1 w.heap.size _ _ _ _ HR1.out).trans h0
    clear hk HR HB C1
    by_cases x0 : 0 ≤ x
    · by_cases x1 : x < P
      · go_wp2_with (refine wpList_load_row_g (by rfl) 42 _ rfl _ rfl 42 _ (0, 0) _ HR1.out Try.underlying42 rfl HI.out ?_)
        refine (C _ (hL.out.below (Nat.le_refl _) HB1.out)).mono ?_
        rintro e W2 ⟨rfl, hk⟩
        have HB2 : Hid (Below w.heap.size w W2) := HB1.out.trans (hk.mono HB1.out.size)
        clear hk
        go_wp2_with fail
        go_ret
        refine ⟨congrArg (fun x => Ending.returned (Value.bool x)) (?_ : _ = b), HB2.out⟩
        rw [Bool.eq_iff_iff, hb.out]
        constructor
        · intro h
          exact ⟨hm, x0, x1, by rw [← Hm.out]; simpa using h⟩
        · intro h
          have := h.2.no
          rw [← Hm.out] at this
          simp [this]
      · have x1' : decide (x < P) = false := by simp; omega
        have hbf : b = false := by
          cases b
          · rfl
          · exact absurd (hb.out.1 rfl).2.hi x1
        subst hbf
        go_wp2_with (refine wpList_skip (by rfl) ?_)
        go_ret
        exact ⟨rfl, HB1.out⟩
    · have hbf : b = false := by
        cases b
        · rfl
        · exact absurd (hb.out.1 rfl).2.lo x0
      subst hbf
      go_wp2_with (refine wpList_skip (by rfl) ?_)
      go_ret
      exact ⟨rfl, HB1.out⟩
  · have hbf : b = false := by
      cases b
      · rfl
      · exact absurd (hb.out.1 rfl).1 hm
    subst hbf
    have C1 := fun w => zMay_any T P r f a n c false hT ⟨fun h => (nomatch h), fun h => absurd h hm⟩ h0 hF hn w
    go_enter Try.func62, Try.ntmps62
    go_upto_region 1 with fail
    refine one_box (Φ := fun W => Code.wp _ _ _ _ W) ?_
    intro W HR' HB'
    have HR : Hid (W.heap[w.heap.size]? = some (.cells T 42 (0, 0))) := HR'
    have HB : Hid (Below w.heap.size w W) := HB'
    clear HR' HB'
    go_wp2_with (refine wpList_load_row_g (by rfl) 42 _ rfl _ rfl 42 _ (0, 0) _ HR.out Try.underlying42 rfl HI.out ?_)
    refine (C1 _ (hL.out.below (Nat.le_refl _) HB.out)).mono ?_
    rintro e W1 ⟨rfl, hk⟩
    have HB1 : Hid (Below w.heap.size w W1) := HB.out.trans (hk.mono HB.out.size)
    clear hk HR HB C1
    go_wp2_with (refine wpList_skip (by rfl) ?_)
    go_ret
    exact ⟨rfl, HB1.out⟩
end Go.Proofs.Ytpiohehijkpghab
