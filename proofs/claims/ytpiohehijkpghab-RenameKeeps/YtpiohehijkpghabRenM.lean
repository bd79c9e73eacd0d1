/- The new map: the program. -/
import Derived.Test.YtpiohehijkpghabRenK
namespace Go.Proofs.Ytpiohehijkpghab
open Go.RowKit Go.Maps
open Hy
set_option linter.unusedVariables false
/-- The first k registers are in the ones of their numbers. -/
def rg (k i : Nat) : Int := if i < k then i else 0
theorem rg_next (k : Nat) : up (rg k) k k = rg (k + 1) := by
  funext i
  unfold up rg
  by_cases h : i = k
  · subst h; simp
  · rw [if_neg h]
    by_cases h2 : i < k
    · rw [if_pos h2, if_pos (by omega)]
    · rw [if_neg h2, if_neg (by omega)]
theorem mcs_congr {P : Int} {r r' : Nat → Int} {v : Value} (h : ∀ i, i < 32 → r i = r' i) : mcs P r v = mcs P r' v := by
  apply Array.ext_getElem?
  intro i
  by_cases h0 : i = 0
  · subst h0; rfl
  · by_cases h1 : i < 33
    · rw [show i = 1 + (i - 1) by omega, mcs_R _ _ _ _ (by omega), mcs_R _ _ _ _ (by omega), h _ (by omega)]
    · by_cases h2 : i = 33
      · subst h2; rfl
      · rw [Array.getElem?_eq_none (by rw [mcs_size]; omega), Array.getElem?_eq_none (by rw [mcs_size]; omega)]
/-- A whole row into a new box: the world behind it as a letter. -/
theorem wpList_store_new {P : Program} {ops : Array Oper} {rest : List Oper} {o : Oper} {a : Act} {W : World} {Q : Exit → Act → World → Prop} (hgd : o.guard = none) (ty : TypeId) (x y : Operand) (ho : o.op = .store ty x y)
    (cells : Array Value) (t : TypeId) (old : Array Value) (hx : a.eval x = .pointer (some ⟨W.heap.size, 0, none⟩)) (hy : a.eval y = .agg cells)
    (hi : (P.info? ty).map (·.size) = some cells.size) (hold : old.size = cells.size) (h1 : cells.all (·.oneCell') = true)
    (h : ∀ V : World, V.heap[W.heap.size]? = some (.cells cells t (0, 0)) → Below W.heap.size W V → wpList P ops Q rest (a.put o.dst undef) V) : wpList P ops Q (o :: rest) a (W.alloc (.cells old t (0, 0))) :=
  wpList_store_row hgd ty x y ho W.heap.size cells hx hy t old (heap_alloc_new _ _) hi hold h1 (h _ (setRow_heap _ _ _ _ _ _ (heap_alloc_new _ _)) (below_row ((Below.refl _ _).alloc (Nat.le_refl _) _) (Nat.le_refl _) _))
theorem owns_move {w w' : World} {base : Nat} {e : TypeId} {size : Nat} {v : Value} {n : Nat} {xs : List Value} (h : w.ownsRow base e size v n xs) (hb : ∀ g, v.ownBlock = some g → w'.heap[g]? = w.heap[g]?) : w'.ownsRow base e size v n xs := by
  obtain ⟨h1, h2⟩ := h
  refine ⟨h1, ?_⟩
  rcases h2 with h2 | ⟨g, cap, cur, hv, hg, hh, r⟩
  · exact .inl h2
  · exact .inr ⟨g, cap, cur, hv, hg, (hb g (by rw [hv]; rfl)).trans hh, r⟩
theorem owns_slice {w : World} {base : Nat} {e : TypeId} {size : Nat} {v : Value} {n : Nat} {xs : List Value} (h : w.ownsRow base e size v n xs) : ∃ lp lc, v = .slice lp n lc := by
  rcases h.2 with ⟨hv, rfl⟩ | ⟨g, cap, cur, hv, _⟩
  · exact ⟨_, _, hv⟩
  · exact ⟨_, _, hv⟩
theorem lie_one (w : World) (x : Int) (hx : (Lit.int .i64 x).wf = true) : Lie (w.alloc (.cells #[.int .i64 x] 3)) (some ⟨w.heap.size, 0, none⟩) 1 1 (fun _ => x) := by
  refine ⟨Nat.le_refl _, by unfold maxLen; omega, fun h => (nomatch h), fun i hi => hx, fun y hy _ => ⟨w.heap.size, 0, (Option.some.inj hy).symm, fun i hi => ?_⟩⟩
  obtain rfl : i = 0 := by omega
  rw [cell_of_row _ _ _ _ _ _ (heap_alloc_new _ _)]
  rfl
theorem first_row {w1 w2 : World} {o A : Obj} {g e n : Nat} {v : Value} {xs : List Value} (h : w1.heap[g]? = some A) (hown : w1.ownsRow (g + 1) e 1 v n xs) (hg : (w1.alloc o).grownBy w2 v.ownBlock) : w2.heap[g]? = some A := by
  have hlt := heap_lt h
  rw [hg.block g (by simp; omega) (by intro e; have := (hown.lt g e.symm).1; omega), heap_alloc_old _ _ hlt]
  exact h
theorem one_new {Φ : World → Prop} {w : World} {A : Obj} (h : ∀ W : World, W.heap[w.heap.size]? = some A → Below w.heap.size w W → W.heap.size = w.heap.size + 1 → Φ W) : Φ (w.alloc A) :=
  h _ (heap_alloc_new _ _) ((Below.refl _ _).alloc (Nat.le_refl _) _) (by simp)
set_option maxRecDepth 20000 in
set_option maxHeartbeats 1000000 in
theorem nNew_no (P : Int) (hP : ¬ (33 ≤ P ∧ P ≤ 96)) (w : World) :
    Calls Try.prog 21 #[.int .i64 P] w fun e w' => e = .returned (.tuple #[.agg zm, .int .i64 3]) ∧ Below w.heap.size w w' := by
  have C1 := nenough_any P
  rw [decide_eq_false hP] at C1
  go_enter Try.func21, Try.ntmps21
  go_upto_region 1 with fail
  refine one_new (Φ := fun W => Code.wp _ _ _ _ W) ?_
  intro W HZ' HB' hs0
  have HB : Hid (Below w.heap.size w W) := HB'
  obtain ⟨Z, hZ, HZ⟩ : ∃ Z : Array Value, Hid (Z.size = 34) ∧ Hid (W.heap[w.heap.size]? = some (.cells Z 42 (0, 0))) := ⟨zm, zm_size, HZ'⟩
  clear HZ' HB'
  go_wp2_with fail
  refine (C1 _).mono ?_
  rintro e w' ⟨rfl, rfl⟩
  go_wp2_with (refine wpList_store_row rfl 42 _ _ rfl _ zm rfl rfl 42 _ HZ.out zm_info (hZ.out.trans zm_size.symm) zm_ones ?_)
  refine bodyPost_ret (v := .tuple #[.agg zm, .int .i64 3]) ?_ rfl ⟨rfl, below_row HB.out (by omega) _⟩
  have L2 := run_loadVar_row (P := Try.prog) _ _ 42 42 zm (0, 0) _ (setRow_heap _ _ _ _ _ _ HZ.out) Try.underlying42 rfl zm_info
  simp [results, Try.results21, asAddr, L2]
set_option maxRecDepth 20000 in
set_option maxHeartbeats 1000000 in
theorem nNew_yes (P : Int) (p0 : 33 ≤ P) (p1 : P ≤ 96) (w : World) :
    Calls Try.prog 21 #[.int .i64 P] w fun e w' => (∃ a' c', e = .returned (.tuple #[.agg (mcs P (rg P.toNat) (.slice a' (P.toNat - 32) c')), .int .i64 0]) ∧ Lie w' a' (P.toNat - 32) c' (fun i => 32 + i)) ∧ Below w.heap.size w w' := by
  have C1 := nenough_any P
  rw [decide_eq_true ⟨p0, p1⟩] at C1
  obtain ⟨i0, hi, hz0, hz1, hz2⟩ := info_parts info3
  go_enter Try.func21, Try.ntmps21
  go_upto_region 1 with fail
  refine one_new (Φ := fun W => Code.wp _ _ _ _ W) ?_
  intro W HZ' HB' hs0
  have HB : Hid (Below w.heap.size w W) := HB'
  obtain ⟨Z, hZ, HZ⟩ : ∃ Z : Array Value, Hid (Z.size = 34) ∧ Hid (W.heap[w.heap.size]? = some (.cells Z 42 (0, 0))) := ⟨zm, zm_size, HZ'⟩
  have HS : Hid (W.heap.size = w.heap.size + 1) := hs0
  clear HZ' HB' hs0
  go_wp2_with fail
  refine (C1 _).mono ?_
  rintro e w' ⟨rfl, rfl⟩
  go_upto_region 3 with fail
  go_upto_region 4 with (refine wpList_store_new rfl 42 _ _ rfl (mcs P (rg 0) (.slice none 0 0)) _ _ rfl rfl (map_info rfl) rfl (ones_mcs _ _ _ _ _) ?_; intro V ha hk)
  have HM : Hid (V.heap[w.heap.size + 1]? = some (.cells (mcs P (rg 0) (.slice none 0 0)) 42 (0, 0))) := by rw [← HS.out]; exact ha
  have HZ1 : Hid (V.heap[w.heap.size]? = some (.cells Z 42 (0, 0))) := (hk.block _ (heap_lt HZ.out)).trans HZ.out
  have HB1 : Hid (Below w.heap.size w V) := HB.out.trans (hk.mono HB.out.size)
  have hs1 : w.heap.size + 2 ≤ V.heap.size := heap_lt HM.out
  rw [HS.out]
  clear ha hk HZ HB HS
  go_wp2_with fail
  generalize Value.agg _ = XX
  go_loopw [13] (fun i wr => ∃ k : Nat, ∃ v : Value, k ≤ P.toNat ∧ i = .int .i64 k ∧ Hid (wr.heap[w.heap.size + 1]? = some (.cells (mcs P (rg k) v) 42 (0, 0))) ∧ Hid (wr.ownsRow (w.heap.size + 2) 3 1 v (k - 32) (row (fun i => 32 + i) (k - 32))) ∧ Hid (wr.heap[w.heap.size]? = some (.cells Z 42 (0, 0))) ∧ Hid (Below w.heap.size w wr) ∧ w.heap.size + 2 ≤ wr.heap.size)
    (fun i _ => P.toNat - (intOf i).toNat)
  case atStart => exact ⟨0, _, by omega, rfl, HM, World.ownsRow_nil _ _ _ _, HZ1, HB1, hs1⟩
  case round =>
    obtain ⟨k, v, hk, rfl, HM, HO, HZ, HB, hs⟩ := hrel
    by_cases hlt : k < P.toNat
    · have hlt' : (k : Int) < P := by omega
      by_cases h32 : k < 32
      · have h32' : (k : Int) < 32 := by omega
        have ck : wr.cell? ⟨w.heap.size + 1, 1 + k, none⟩ = some (.int .i64 (rg k k)) := (cell_of_row _ _ _ _ _ _ HM.out).trans (mcs_R _ _ _ _ h32)
        have hf : ∀ j, wr.frozen? ⟨w.heap.size + 1, j, none⟩ = false := fun j => frozen_of_row _ _ j _ _ HM.out
        go_wp2_with fail
        refine ⟨⟨k + 1, v, by omega, by go_num, ?_, ?_, ?_, ?_, ?_⟩, by simp [intOf]; omega⟩
        · rw [← rg_next k, ← set_R P (rg k) v k k h32]; exact row_setCell HM.out
        · rw [show k + 1 - 32 = k - 32 by omega]
          exact owns_move HO.out fun g hg => heap_set_other (b := w.heap.size + 1) _ (by have := (HO.out.lt g hg).1; omega)
        · exact row_setCell_other HZ.out (by omega)
        · exact HB.out.setCell (Nat.le_succ _) _
        · simpa using hs
      · have h32' : ¬ (k : Int) < 32 := by omega
        obtain ⟨lp, lc, rfl⟩ := owns_slice HO.out
        have c33 : wr.cell? ⟨w.heap.size + 1, 33, none⟩ = some (.slice lp (k - 32) lc) := (cell_of_row _ _ _ _ _ _ HM.out).trans rfl
        go_wp2_with (at_builtin; go_loud (refine wpList_append_lie _ rfl _ _ 40 rfl (w.heap.size + 2) 3 i0 Try.underlying40 hi hz0 hz1 hz2 _ (k - 32) (fun i => 32 + i) rfl (HO.out.alloc _) _ 1 1 (fun _ => (k : Int)) rfl (lie_one wr k (WalkArith.wf_i64 (by omega))) (by omega) (by simp; omega) ?_; intro v1 w1 hown1 hgrow1; obtain ⟨lp1, lc1, rfl⟩ := owns_slice hown1; have HM1 := first_row HM.out HO.out hgrow1; have hc1 : w1.cell? ⟨w.heap.size + 1, 33, none⟩ = some (.slice lp (k - 32) lc) := (cell_of_row _ _ _ _ _ _ HM1).trans rfl; have hf1 : ∀ j, w1.frozen? ⟨w.heap.size + 1, j, none⟩ = false := fun j => frozen_of_row _ _ j _ _ HM1))
        refine ⟨⟨k + 1, .slice lp1 (k - 32 + 1) lc1, by omega, by go_num, ?_, ?_, ?_, ?_, ?_⟩, by simp [intOf]; omega⟩
        · rw [mcs_congr (r := rg (k + 1)) (r' := rg k) (fun i hi => by unfold rg; rw [if_pos (by omega), if_pos (by omega)]), ← set_F P (rg k) (.slice lp (k - 32) lc)]
          exact row_setCell HM1
        · have hown2 : w1.ownsRow (w.heap.size + 2) 3 1 (.slice lp1 (k - 32 + 1) lc1) (k + 1 - 32) (row (fun i => 32 + i) (k + 1 - 32)) := by
            rw [row_congr (f' := cat (fun i => 32 + i) (k - 32) (fun _ => (k : Int))) (fun i hi => by unfold cat; split <;> (simp only [] <;> omega)), show k + 1 - 32 = k - 32 + 1 by omega]
            exact hown1
          exact owns_move hown2 fun g hg => heap_set_other (b := w.heap.size + 1) _ (by have := (hown2.lt g hg).1; omega)
        · exact row_setCell_other ((hgrow1.block _ (by simp; omega) (by intro e; have := (HO.out.lt _ e.symm).1; omega)).trans ((heap_alloc_old _ _ (by omega)).trans HZ.out)) (by omega)
        · exact ((HB.out.alloc HB.out.size _).grown hgrow1 (by simp; omega) (fun g hg => by have := (HO.out.lt g hg).1; omega)).setCell (Nat.le_succ _) _
        · have := hgrow1.size
          simp at this ⊢
          omega
    · have : k = P.toNat := by omega
      subst this
      have hlt' : decide (((P.toNat : Nat) : Int) < P) = false := by simp; omega
      obtain ⟨lp, lc, rfl⟩ := owns_slice HO.out
      obtain ⟨M, hM⟩ : ∃ M, Hid (M = mcs P (rg P.toNat) (.slice lp (P.toNat - 32) lc)) := ⟨_, rfl⟩
      have HM' : Hid (wr.heap[w.heap.size + 1]? = some (.cells M 42 (0, 0))) := by rw [hM.out]; exact HM
      have MI : Hid ((Try.prog.info? 42).map (·.size) = some M.size) := map_info hM.out
      have MO : Hid (M.all (·.oneCell') = true) := by show _ = _; rw [hM.out]; exact ones_mcs _ _ _ _ _
      have MZ : Hid (Z.size = M.size) := by show _ = _; rw [hM.out, hZ.out]; rfl
      clear HM
      go_wp2_with (first | (refine wpList_load_row_g (by rfl) 42 _ rfl _ rfl 42 _ (0, 0) _ HM'.out Try.underlying42 rfl MI.out ?_) | (refine wpList_store_row rfl 42 _ _ rfl _ _ rfl rfl 42 _ HZ.out MI.out MZ.out MO.out ?_))
      obtain ⟨a', c', e, hl, hfar⟩ := lie_of_own HO.out (fun i hi => WalkArith.wf_i64 (by omega))
      cases e
      refine bodyPost_ret (v := .tuple #[.agg M, .int .i64 0]) ?_ rfl ⟨⟨lp, lc, by rw [hM.out], ?_⟩, ?_⟩
      · have L2 := run_loadVar_row (P := Try.prog) _ _ 42 42 M (0, 0) _ (setRow_heap _ _ _ _ _ _ HZ.out) Try.underlying42 rfl MI.out
        simp [results, Try.results21, asAddr, L2]
      · refine hl.moved fun y hy => ?_
        have := hfar y hy
        rw [setRow_other _ _ _ _ (by omega)]
      · exact below_row HB.out (by omega) _
end Go.Proofs.Ytpiohehijkpghab
