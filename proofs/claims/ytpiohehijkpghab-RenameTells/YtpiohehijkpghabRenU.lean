/- The new map: the document. -/
import Derived.Test.YtpiohehijkpghabRenR
namespace Go.Proofs.Ytpiohehijkpghab
open Go.RowKit Go.Maps
open Hy
set_option linter.unusedVariables false
set_option maxRecDepth 20000 in
set_option maxHeartbeats 1000000 in
theorem zNew_no (P : Int) (hP : ¬ (33 ≤ P ∧ P ≤ 96)) (w : World) :
    Calls Try.prog 22 #[.int .i64 P] w fun e w' => e = .returned (.tuple #[.agg zm, .int .i64 3]) ∧ Below w.heap.size w w' := by
  go_enter Try.func22, Try.ntmps22
  go_upto_region 1 with fail
  refine one_new (Φ := fun W => Code.wp _ _ _ _ W) ?_
  intro W HZ' HB' hs0
  have HB : Hid (Below w.heap.size w W) := HB'
  obtain ⟨Z, hZ, HZ⟩ : ∃ Z : Array Value, Hid (Z.size = 34) ∧ Hid (W.heap[w.heap.size]? = some (.cells Z 42 (0, 0))) := ⟨zm, zm_size, HZ'⟩
  have HS : Hid (W.heap.size = w.heap.size + 1) := hs0
  clear HZ' HB' hs0
  go_upto_region 2 with (refine wpList_store_new rfl 42 _ _ rfl zm _ _ rfl rfl zm_info rfl zm_ones ?_; intro V ha hk)
  have HM : Hid (V.heap[w.heap.size + 1]? = some (.cells zm 42 (0, 0))) := by rw [← HS.out]; exact ha
  have HZ1 : Hid (V.heap[w.heap.size]? = some (.cells Z 42 (0, 0))) := (hk.block _ (heap_lt HZ.out)).trans HZ.out
  have HB1 : Hid (Below w.heap.size w V) := HB.out.trans (hk.mono HB.out.size)
  rw [HS.out]
  clear ha hk HZ HB HS
  by_cases h1 : P < 33
  · go_wp2_with (first | (refine wpList_load_row_g (by rfl) 42 _ rfl _ rfl 42 _ (0, 0) _ HM.out Try.underlying42 rfl zm_info ?_) | (refine wpList_store_row rfl 42 _ _ rfl _ zm rfl rfl 42 _ HZ1.out zm_info (hZ.out.trans zm_size.symm) zm_ones ?_))
    refine bodyPost_ret (v := .tuple #[.agg zm, .int .i64 3]) ?_ rfl ⟨rfl, below_row HB1.out (by omega) _⟩
    have L2 := run_loadVar_row (P := Try.prog) _ _ 42 42 zm (0, 0) _ (setRow_heap _ _ _ _ _ _ HZ1.out) Try.underlying42 rfl zm_info
    simp [results, Try.results22, asAddr, L2]
  · have h2 : 96 < P := by omega
    go_wp2_with (first | (refine wpList_load_row_g (by rfl) 42 _ rfl _ rfl 42 _ (0, 0) _ HM.out Try.underlying42 rfl zm_info ?_) | (refine wpList_store_row rfl 42 _ _ rfl _ zm rfl rfl 42 _ HZ1.out zm_info (hZ.out.trans zm_size.symm) zm_ones ?_))
    refine bodyPost_ret (v := .tuple #[.agg zm, .int .i64 3]) ?_ rfl ⟨rfl, below_row HB1.out (by omega) _⟩
    have L2 := run_loadVar_row (P := Try.prog) _ _ 42 42 zm (0, 0) _ (setRow_heap _ _ _ _ _ _ HZ1.out) Try.underlying42 rfl zm_info
    simp [results, Try.results22, asAddr, L2]
set_option maxRecDepth 20000 in
set_option maxHeartbeats 1000000 in
theorem zNew_yes (P : Int) (p0 : 33 ≤ P) (p1 : P ≤ 96) (w : World) :
    Calls Try.prog 22 #[.int .i64 P] w fun e w' => (∃ a' c', e = .returned (.tuple #[.agg (mcs P (rg P.toNat) (.slice a' (P.toNat - 32) c')), .int .i64 0]) ∧ Lie w' a' (P.toNat - 32) c' (fun i => 32 + i)) ∧ Below w.heap.size w w' := by
  obtain ⟨i0, hi, hz0, hz1, hz2⟩ := info_parts info3
  have z1 : decide (P < 33) = false := by simp; omega
  have z2 : decide (96 < P) = false := by simp; omega
  go_enter Try.func22, Try.ntmps22
  go_upto_region 1 with fail
  refine one_new (Φ := fun W => Code.wp _ _ _ _ W) ?_
  intro W HZ' HB' hs0
  have HB : Hid (Below w.heap.size w W) := HB'
  obtain ⟨Z, hZ, HZ⟩ : ∃ Z : Array Value, Hid (Z.size = 34) ∧ Hid (W.heap[w.heap.size]? = some (.cells Z 42 (0, 0))) := ⟨zm, zm_size, HZ'⟩
  have HS : Hid (W.heap.size = w.heap.size + 1) := hs0
  clear HZ' HB' hs0
  go_upto_region 2 with (refine wpList_store_new rfl 42 _ _ rfl zm _ _ rfl rfl zm_info rfl zm_ones ?_; intro V ha hk)
  have HM : Hid (V.heap[w.heap.size + 1]? = some (.cells (mcs 0 (rg 0) (.slice none 0 0)) 42 (0, 0))) := by rw [← HS.out]; exact ha
  have HZ1 : Hid (V.heap[w.heap.size]? = some (.cells Z 42 (0, 0))) := (hk.block _ (heap_lt HZ.out)).trans HZ.out
  have HB1 : Hid (Below w.heap.size w V) := HB.out.trans (hk.mono HB.out.size)
  have hs1 : w.heap.size + 2 ≤ V.heap.size := heap_lt HM.out
  rw [HS.out]
  clear ha hk HZ HB HS
  have c0 : V.cell? ⟨w.heap.size + 1, 0, none⟩ = some (.int .i64 0) := (cell_of_row _ _ _ _ _ _ HM.out).trans rfl
  have f0 : ∀ j, V.frozen? ⟨w.heap.size + 1, j, none⟩ = false := fun j => frozen_of_row _ _ j _ _ HM.out
  go_wp2_with fail
  have HM2 : Hid ((V.setCell ⟨w.heap.size + 1, 0, none⟩ (.int .i64 P)).heap[w.heap.size + 1]? = some (.cells (mcs P (rg 0) (.slice none 0 0)) 42 (0, 0))) := row_setCell HM.out
  have HZ2 : Hid ((V.setCell ⟨w.heap.size + 1, 0, none⟩ (.int .i64 P)).heap[w.heap.size]? = some (.cells Z 42 (0, 0))) := row_setCell_other HZ1.out (by omega)
  have HB2 : Hid (Below w.heap.size w (V.setCell ⟨w.heap.size + 1, 0, none⟩ (.int .i64 P))) := HB1.out.setCell (Nat.le_succ _) _
  have hs2 : w.heap.size + 2 ≤ (V.setCell ⟨w.heap.size + 1, 0, none⟩ (.int .i64 P)).heap.size := heap_lt HM2.out
  clear HM HZ1 HB1 c0 f0 hs1
  generalize V.setCell ⟨w.heap.size + 1, 0, none⟩ (.int .i64 P) = V2 at *
  generalize Value.agg _ = XX
  go_loopw [5] (fun i wr => ∃ k : Nat, ∃ v : Value, k ≤ 32 ∧ i = .int .i64 k ∧ Hid (wr.heap[w.heap.size + 1]? = some (.cells (mcs P (rg k) v) 42 (0, 0))) ∧ Hid (wr.ownsRow (w.heap.size + 2) 3 1 v (k - 32) (row (fun i => 32 + i) (k - 32))) ∧ Hid (wr.heap[w.heap.size]? = some (.cells Z 42 (0, 0))) ∧ Hid (Below w.heap.size w wr) ∧ w.heap.size + 2 ≤ wr.heap.size)
    (fun i _ => 32 - (intOf i).toNat)
  case atStart => exact ⟨0, _, by omega, rfl, HM2, World.ownsRow_nil _ _ _ _, HZ2, HB2, hs2⟩
  case round =>
    obtain ⟨k, v, hk, rfl, HM, HO, HZ, HB, hs⟩ := hrel
    by_cases h32 : k < 32
    · have h32' : (k : Int) < 32 := by omega
      have ck : wr.cell? ⟨w.heap.size + 1, 1 + k, none⟩ = some (.int .i64 (rg k k)) := (cell_of_row _ _ _ _ _ _ HM.out).trans (mcs_R _ _ _ _ h32)
      have hf : ∀ j, wr.frozen? ⟨w.heap.size + 1, j, none⟩ = false := fun j => frozen_of_row _ _ j _ _ HM.out
      go_wp2_with fail
      refine ⟨⟨k + 1, v, by omega, by go_num, ?_, ?_, ?_, ?_, ?_⟩, by simp [intOf]; omega⟩
      · rw [← rg_next k, ← set_R P (rg k) v k k h32]; exact row_setCell HM.out
      · rw [show k + 1 - 32 = k - 32 by omega]
        exact owns_move HO.out fun g hg => heap_set_other (b := w.heap.size + 1) _ (by have := (HO.out.lt g hg).1; omega)
      · exact row_setCell_other HZ.out (by omega)
      · exact HB.out.setCell (Nat.le_succ _) _
      · simpa using hs
    · have : k = 32 := by omega
      subst this
      rw [show ((32 : Nat) : Int) = 32 from rfl]
      go_wp2_with fail
      go_loopw [6] (fun i wr => ∃ k : Nat, ∃ v : Value, 32 ≤ k ∧ k ≤ P.toNat ∧ i = .int .i64 k ∧ Hid (wr.heap[w.heap.size + 1]? = some (.cells (mcs P (rg k) v) 42 (0, 0))) ∧ Hid (wr.ownsRow (w.heap.size + 2) 3 1 v (k - 32) (row (fun i => 32 + i) (k - 32))) ∧ Hid (wr.heap[w.heap.size]? = some (.cells Z 42 (0, 0))) ∧ Hid (Below w.heap.size w wr) ∧ w.heap.size + 2 ≤ wr.heap.size)
        (fun i _ => P.toNat - (intOf i).toNat)
      case atStart => exact ⟨32, _, by omega, by omega, rfl, HM, HO, HZ, HB, hs⟩
      case round =>
        obtain ⟨k, v, hk0, hk, rfl, HM, HO, HZ, HB, hs⟩ := hrel
        by_cases hlt : k < P.toNat
        · have hlt' : (k : Int) < P := by omega
          obtain ⟨lp, lc, rfl⟩ := owns_slice HO.out
          have c33 : wr.cell? ⟨w.heap.size + 1, 33, none⟩ = some (.slice lp (k - 32) lc) := (cell_of_row _ _ _ _ _ _ HM.out).trans rfl
          go_wp2_with (at_builtin; refine wpList_append_lie _ rfl _ _ 40 rfl (w.heap.size + 2) 3 i0 Try.underlying40 hi hz0 hz1 hz2 _ (k - 32) (fun i => 32 + i) rfl (HO.out.alloc _) _ 1 1 (fun _ => (k : Int)) rfl (lie_one wr k (WalkArith.wf_i64 (by omega))) (by omega) (by simp; omega) ?_; intro v1 w1 hown1 hgrow1; obtain ⟨lp1, lc1, rfl⟩ := owns_slice hown1; have HM1 := first_row HM.out HO.out hgrow1; have hc1 : w1.cell? ⟨w.heap.size + 1, 33, none⟩ = some (.slice lp (k - 32) lc) := (cell_of_row _ _ _ _ _ _ HM1).trans rfl; have hf1 : ∀ j, w1.frozen? ⟨w.heap.size + 1, j, none⟩ = false := fun j => frozen_of_row _ _ j _ _ HM1)
          refine ⟨⟨k + 1, .slice lp1 (k - 32 + 1) lc1, by omega, by omega, by go_num, ?_, ?_, ?_, ?_, ?_⟩, by simp [intOf]; omega⟩
          · rw [mcs_congr (r := rg (k + 1)) (r' := rg k) (fun i hi => by unfold rg; rw [if_pos (by omega), if_pos (by omega)]), ← set_F P (rg k) (.slice lp (k - 32) lc)]
            exact row_setCell HM1
          · have hown2 : w1.ownsRow (w.heap.size + 2) 3 1 (.slice lp1 (k - 32 + 1) lc1) (k + 1 - 32) (row (fun i => 32 + i) (k + 1 - 32)) := by
              rw [row_congr (f' := cat (fun i => 32 + i) (k - 32) (fun _ => (k : Int))) (fun i hi => by unfold cat; split <;> (simp only [] <;> omega)), show k + 1 - 32 = k - 32 + 1 by omega]
              exact hown1
            exact owns_move hown2 fun g hg => heap_set_other (b := w.heap.size + 1) _ (by have := (hown2.lt g hg).1; omega)
          · exact row_setCell_other ((hgrow1.block _ (by simp; omega) (by intro e; have := (HO.out.lt _ e.symm).1; omega)).trans ((heap_alloc_old _ _ (by omega)).trans HZ.out)) (by omega)
          · exact ((HB.out.alloc HB.out.size _).grown hgrow1 (by simp; omega) (fun g hg => by have := (HO.out.lt g hg).1; omega)).setCell (Nat.le_succ _) _
          · have := hgrow1.size
            simp at this ⊢
            omega
        · have : k = P.toNat := by omega
          subst this
          have hlt' : decide (((P.toNat : Nat) : Int) < P) = false := by simp; omega
          obtain ⟨lp, lc, rfl⟩ := owns_slice HO.out
          obtain ⟨M, hM⟩ : ∃ M, Hid (M = mcs P (rg P.toNat) (.slice lp (P.toNat - 32) lc)) := ⟨_, rfl⟩
          have HM' : Hid (wr.heap[w.heap.size + 1]? = some (.cells M 42 (0, 0))) := by rw [hM.out]; exact HM
          have MI : Hid ((Try.prog.info? 42).map (·.size) = some M.size) := map_info hM.out
          have MO : Hid (M.all (·.oneCell') = true) := by show _ = _; rw [hM.out]; exact ones_mcs _ _ _ _ _
          have MZ : Hid (Z.size = M.size) := by show _ = _; rw [hM.out, hZ.out]; rfl
          clear HM
          go_wp2_with (first | (refine wpList_load_row_g (by rfl) 42 _ rfl _ rfl 42 _ (0, 0) _ HM'.out Try.underlying42 rfl MI.out ?_) | (refine wpList_store_row rfl 42 _ _ rfl _ _ rfl rfl 42 _ HZ.out MI.out MZ.out MO.out ?_))
          obtain ⟨a', c', e, hl, hfar⟩ := lie_of_own HO.out (fun i hi => WalkArith.wf_i64 (by omega))
          cases e
          refine bodyPost_ret (v := .tuple #[.agg M, .int .i64 0]) ?_ rfl ⟨⟨lp, lc, by rw [hM.out], ?_⟩, ?_⟩
          · have L2 := run_loadVar_row (P := Try.prog) _ _ 42 42 M (0, 0) _ (setRow_heap _ _ _ _ _ _ HZ.out) Try.underlying42 rfl MI.out
            simp [results, Try.results22, asAddr, L2]
          · refine hl.moved fun y hy => ?_
            have := hfar y hy
            rw [setRow_other _ _ _ _ (by omega)]
          · exact below_row HB.out (by omega) _
end Go.Proofs.Ytpiohehijkpghab
