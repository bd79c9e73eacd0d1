/- Whether there may be such a map: the document. -/
import Derived.Test.YtpiohehijkpghabRenN
namespace Go.Proofs.Ytpiohehijkpghab
open Go.RowKit Go.Maps
open Hy
set_option linter.unusedVariables false
set_option maxRecDepth 20000 in
set_option maxHeartbeats 1000000 in
theorem zMay_any (T : Array Value) (P : Int) (r f : Nat → Int) (a : Option Addr) (n c : Nat) (b : Bool) (hT : Hid (T = mcs P r (.slice a n c))) (hb : Hid (b = true ↔ MayBe P n r f))
    (h0 : T[0]? = some (.int .i64 P)) (hF : T[33]? = some (.slice a n c)) (hn : n ≤ 140737488355328) (w : World) (hL : Hid (Lie w a n c f)) :
    Calls Try.prog 25 #[.agg T] w fun e w' => e = .returned (.bool b) ∧ Below w.heap.size w w' := by
  have C := fun x w => zmany_any T P r f a n c x hT hF hn w
  have HI : Hid ((Try.prog.info? 42).map (·.size) = some T.size) := map_info hT.out
  by_cases hp : 33 ≤ P ∧ P ≤ 96
  · obtain ⟨p0, p1⟩ := hp
    go_enter Try.func25, Try.ntmps25
    go_upto_region 1 with fail
    refine one_box (Φ := fun W => Code.wp _ _ _ _ W) ?_
    intro W HR' HB'
    have HR : Hid (W.heap[w.heap.size]? = some (.cells T 42 (0, 0))) := HR'
    have HB : Hid (Below w.heap.size w W) := HB'
    clear HR' HB'
    have c0 : W.cell? ⟨w.heap.size, 0, none⟩ = some (.int .i64 P) := (cell_of_row W w.heap.size _ _ _ _ HR.out).trans h0
    go_wp2_with fail
    clear c0
    go_loopw [3, 4] (fun v i wr => ∃ k : Nat, ∃ q : Int, k ≤ P.toNat ∧ i = .int .i64 k ∧ v = .int .i64 q ∧ Hid (q = sm (fun p => cn (jn r f) p (32 + n)) k) ∧ 0 ≤ q ∧ q ≤ k ∧ Hid (∀ p, p < k → cn (jn r f) (p : Nat) (32 + n) ≤ 1) ∧ Hid (wr.heap[w.heap.size]? = some (.cells T 42 (0, 0))) ∧ Hid (Below w.heap.size w wr))
      (fun _ i _ => P.toNat - (intOf i).toNat)
    case atStart => exact ⟨0, 0, by omega, rfl, rfl, rfl, by omega, by omega, fun p hp => absurd hp (by omega), HR, HB⟩
    case round =>
      obtain ⟨k, q, hk, rfl, rfl, Hq, q0, q1, Hall, HR1, HB1⟩ := hrel
      have c0 : wr.cell? ⟨w.heap.size, 0, none⟩ = some (.int .i64 P) := (cell_of_row wr w.heap.size _ _ _ _ HR1.out).trans h0
      by_cases hlt : k < P.toNat
      · have hlt' : (k : Int) < P := by omega
        go_wp2_with (refine wpList_load_row_g (by rfl) 42 _ rfl _ rfl 42 _ (0, 0) _ HR1.out Try.underlying42 rfl HI.out ?_)
        refine (C k _ (hL.out.below (Nat.le_refl _) HB1.out)).mono ?_
        rintro e W2 ⟨rfl, hk2⟩
        have HR2 : Hid (W2.heap[w.heap.size]? = some (.cells T 42 (0, 0))) := (hk2.block _ (heap_lt HR1.out)).trans HR1.out
        have HB2 : Hid (Below w.heap.size w W2) := HB1.out.trans (hk2.mono HB1.out.size)
        have hcl := cn_le (jn r f) (k : Int) (32 + n)
        obtain ⟨m, hm⟩ : ∃ m : Nat, m = cn (jn r f) (k : Int) (32 + n) := ⟨_, rfl⟩
        have Hm : Hid (m = cn (jn r f) (k : Int) (32 + n)) := hm
        rw [← hm] at hcl ⊢
        clear hm hk2 c0 HR1 HB1
        by_cases h1 : 1 < m
        · have h1' : (1 : Int) < m := by omega
          have hbf : b = false := by
            cases b
            · rfl
            · have := ((all_doc _ _ _).2 (hb.out.1 rfl).all).1 k hlt
              rw [← Hm.out] at this
              omega
          subst hbf
          go_wp2_with fail
          go_ret
          exact ⟨rfl, HB2.out⟩
        · have h1' : ¬ (1 : Int) < m := by omega
          go_wp2_with fail
          refine ⟨⟨k + 1, _, by omega, by go_num, rfl, ?_, by omega, by omega, fun p hp => ?_, HR2, HB2⟩, by simp [intOf]; omega⟩
          · show _ = _
            rw [Hq.out, Hm.out]
            exact (Int.natCast_add _ _).symm
          · rcases (by omega : p < k ∨ p = k) with e | e
            · exact Hall.out p e
            · rw [e, ← Hm.out]; omega
      · have : k = P.toNat := by omega
        subst this
        have hlt' : decide (((P.toNat : Nat) : Int) < P) = false := by simp; omega
        have c33 : wr.cell? ⟨w.heap.size, 33, none⟩ = some (.slice a n c) := (cell_of_row wr w.heap.size _ _ _ _ HR1.out).trans hF
        go_wp2_with fail
        go_ret
        refine ⟨congrArg (fun x => Ending.returned (Value.bool x)) (?_ : _ = b), HB1.out⟩
        rw [Bool.eq_iff_iff, hb.out]
        have hd := all_doc (jn r f) (32 + n) P.toNat
        have hq := Hq.out
        constructor
        · intro h
          refine ⟨p0, p1, hd.1 ⟨Hall.out, ?_⟩⟩
          simp at h
          omega
        · intro h
          have := (hd.2 h.all).2
          simp
          omega
  · have hbf : b = false := by
      cases b
      · rfl
      · have := hb.out.1 rfl
        exact absurd ⟨this.low, this.high⟩ hp
    subst hbf
    go_enter Try.func25, Try.ntmps25
    go_upto_region 1 with fail
    refine one_box (Φ := fun W => Code.wp _ _ _ _ W) ?_
    intro W HR' HB'
    have HR : Hid (W.heap[w.heap.size]? = some (.cells T 42 (0, 0))) := HR'
    have HB : Hid (Below w.heap.size w W) := HB'
    clear HR' HB'
    have c0 : W.cell? ⟨w.heap.size, 0, none⟩ = some (.int .i64 P) := (cell_of_row W w.heap.size _ _ _ _ HR.out).trans h0
    by_cases h1 : P < 33
    · go_wp2_with fail
      go_ret
      exact ⟨rfl, HB.out⟩
    · have h2 : 96 < P := by omega
      go_wp2_with fail
      go_ret
      exact ⟨rfl, HB.out⟩
end Go.Proofs.Ytpiohehijkpghab
