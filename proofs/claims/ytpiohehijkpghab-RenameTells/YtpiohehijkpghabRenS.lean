/- Giving a register back: the document. -/
import Derived.Test.YtpiohehijkpghabRenR
namespace Go.Proofs.Ytpiohehijkpghab
open Go.RowKit Go.Maps
open Hy
set_option linter.unusedVariables false
theorem owns_base {w : World} {base base' : Nat} {e : TypeId} {size : Nat} {v : Value} {n : Nat} {xs : List Value} (h : w.ownsRow base e size v n xs) (hb : base' ≤ base) : w.ownsRow base' e size v n xs := by
  obtain ⟨h1, h2⟩ := h
  refine ⟨h1, ?_⟩
  rcases h2 with h2 | ⟨g, cap, cur, hv, hg, r⟩
  · exact .inl h2
  · exact .inr ⟨g, cap, cur, hv, Nat.le_trans hb hg, r⟩
theorem own_one (w : World) (x : Int) : (w.alloc (.cells #[.int .i64 x] 3)).ownsRow w.heap.size 3 1 (.slice (some ⟨w.heap.size, 0, none⟩) 1 1) 1 (row (fun _ => x) 1) :=
  ⟨rfl, .inr ⟨w.heap.size, 1, #[.int .i64 x], rfl, Nat.le_refl _, heap_alloc_new _ _, Nat.le_refl _, by unfold maxLen; omega, rfl, rfl⟩⟩
set_option maxRecDepth 20000 in
set_option maxHeartbeats 1000000 in
theorem zGive_yes (T : Array Value) (P : Int) (r f : Nat → Int) (a : Option Addr) (n c : Nat) (hT : Hid (T = mcs P r (.slice a n c))) (hm : Hid (MayBe P n r f))
    (h0 : T[0]? = some (.int .i64 P)) (hF : T[33]? = some (.slice a n c))  (x : Int) (hx : Hid (Idle P n r f x)) (w : World) (hL : Hid (Lie w a n c f)) :
    Calls Try.prog 29 #[.agg T, .int .i64 x] w fun e w' => (∃ a' c', e = .returned (.tuple #[.agg (mcs P r (.slice a' (n + 1) c')), .bool true]) ∧ Lie w' a' (n + 1) c' (en f n x)) ∧ Below w.heap.size w w' := by
  have hn64 := hm.out.few.2
  have C1 := fun w => zother_any T P r f a n c x true hT ⟨fun _ => ⟨hm.out, hx.out⟩, fun _ => rfl⟩ h0 hF (by omega) w
  have HI : Hid ((Try.prog.info? 42).map (·.size) = some T.size) := map_info hT.out
  have HO : Hid (T.all (·.oneCell') = true) := by show _ = _; rw [hT.out]; exact ones_mcs _ _ _ _ _
  have HTZ : Hid ((34 : Nat) = T.size) := by show _ = _; rw [hT.out]; rfl
  go_enter Try.func29, Try.ntmps29
  go_upto_region 1 with fail
  refine two_new (Φ := fun W => Code.wp _ _ _ _ W) ?_
  intro W0 HR' HZ' HB' hs0
  have HR0 : Hid (W0.heap[w.heap.size]? = some (.cells T 42 (0, 0))) := HR'
  have HB0 : Hid (Below w.heap.size w W0) := HB'
  obtain ⟨Z, hZ, HZ0⟩ : ∃ Z : Array Value, Hid (Z.size = 34) ∧ Hid (W0.heap[w.heap.size + 1]? = some (.cells Z 42 (0, 0))) := ⟨zm, zm_size, HZ'⟩
  clear HR' HZ' HB'
  go_wp2_with (refine wpList_load_row_g (by rfl) 42 _ rfl _ rfl 42 _ (0, 0) _ HR0.out Try.underlying42 rfl HI.out ?_)
  refine (C1 _ (hL.out.below (Nat.le_refl _) HB0.out)).mono ?_
  rintro e W1 ⟨rfl, hk⟩
  have HR1 : Hid (W1.heap[w.heap.size]? = some (.cells T 42 (0, 0))) := (hk.block _ (heap_lt HR0.out)).trans HR0.out
  have HZ1 : Hid (W1.heap[w.heap.size + 1]? = some (.cells Z 42 (0, 0))) := (hk.block _ (heap_lt HZ0.out)).trans HZ0.out
  have HB1 : Hid (Below w.heap.size w W1) := HB0.out.trans (hk.mono HB0.out.size)
  have hs1 : w.heap.size + 1 < W1.heap.size := heap_lt HZ1.out
  clear hk HR0 HZ0 HB0 hs0 C1
  go_upto_region 3 with fail
  go_upto_region 4 with (first | (refine wpList_load_row_g (by rfl) 42 _ rfl _ rfl 42 _ (0, 0) _ HR1.out Try.underlying42 rfl HI.out ?_) | (refine wpList_store_new rfl 42 _ _ rfl T _ _ rfl rfl HI.out HTZ.out HO.out ?_; intro V ha hk))
  have hq : w.heap.size + 2 ≤ W1.heap.size := hs1
  have HQ1 : Hid (V.heap[W1.heap.size]? = some (.cells T 42 (0, 0))) := ha
  have HR : Hid (V.heap[w.heap.size]? = some (.cells T 42 (0, 0))) := (hk.block _ (by omega)).trans HR1.out
  have HZ : Hid (V.heap[w.heap.size + 1]? = some (.cells Z 42 (0, 0))) := (hk.block _ (by omega)).trans HZ1.out
  have HB : Hid (Below w.heap.size w V) := HB1.out.trans (hk.mono HB1.out.size)
  have hqs : W1.heap.size < V.heap.size := heap_lt HQ1.out
  clear ha hk HR1 HZ1 HB1 hs1
  generalize W1.heap.size = q at *
  have c33 : V.cell? ⟨w.heap.size, 33, none⟩ = some (.slice a n c) := (cell_of_row _ w.heap.size _ _ _ _ HR.out).trans hF
  have HL1 : Hid (Lie V a n c f) := hL.out.below (Nat.le_refl _) HB.out
  obtain ⟨i0, hi, hz0, hz1, hz2⟩ := info_parts info3
  have hs2 : w.heap.size < V.heap.size := by omega
  go_upto_region 5 with (at_builtin; refine wpList_append_lie _ rfl _ _ 40 rfl V.heap.size 3 i0 Try.underlying40 hi hz0 hz1 hz2 _ 0 f rfl (World.ownsRow_made V #[] 0 (Nat.le_refl _) (Nat.zero_le _) rfl) _ n c f rfl (HL1.out.below (Nat.le_refl _) ((Below.refl _ _).alloc (Nat.le_refl _) _)) (by omega) (by simp) ?_; intro v' w1 hown0 hgrow; have hown := own_zero hown0; clear hown0; obtain ⟨lp, lc, rfl⟩ := owns_slice hown; have hq1 : w1.heap[q]? = some (.cells T 42 (0, 0)) := (hgrow.block q (by simp; omega) (by intro e; have e2 : q = V.heap.size := Option.some.inj e; omega)).trans ((heap_alloc_old V _ (by omega)).trans HQ1.out); have cq : w1.cell? ⟨q, 33, none⟩ = some (.slice a n c) := (cell_of_row _ q _ _ _ _ hq1).trans hF; have fq : ∀ j, w1.frozen? ⟨q, j, none⟩ = false := fun j => frozen_of_row _ _ j _ _ hq1)
  have HB2 : Hid (Below w.heap.size w (w1.setCell ⟨q, 33, none⟩ (.slice lp n lc))) := ((HB.out.alloc HB.out.size _).grown hgrow (by simp; omega) (fun g hg => by have e2 : V.heap.size = g := Option.some.inj hg; omega)).setCell (by show w.heap.size ≤ q; omega) _
  have HZ2 : Hid ((w1.setCell ⟨q, 33, none⟩ (.slice lp n lc)).heap[w.heap.size + 1]? = some (.cells Z 42 (0, 0))) := row_setCell_other ((hgrow.block (w.heap.size + 1) (by simp; omega) (by intro e; have e2 : w.heap.size + 1 = V.heap.size := Option.some.inj e; omega)).trans ((heap_alloc_old V _ (by omega)).trans HZ.out)) (by omega)
  have HQ2 : Hid ((w1.setCell ⟨q, 33, none⟩ (.slice lp n lc)).heap[q]? = some (.cells (mcs P r (.slice lp n lc)) 42 (0, 0))) := by rw [← set_F P r (.slice a n c), ← hT.out]; exact row_setCell hq1
  have HO2 : Hid ((w1.setCell ⟨q, 33, none⟩ (.slice lp n lc)).ownsRow (q + 1) 3 1 (.slice lp n lc) n (row f n)) := by
    refine owns_move (owns_base hown hqs) fun g hg => heap_set_other _ ?_
    have := (hown.lt g hg).1
    show g ≠ q
    omega
  have hqs2 : q < (w1.setCell ⟨q, 33, none⟩ (.slice lp n lc)).heap.size := heap_lt HQ2.out
  clear hown hgrow hq1 HB HZ HR HQ1 HL1 c33 cq fq hs2 hqs
  generalize w1.setCell ⟨q, 33, none⟩ (.slice lp n lc) = W4 at *
  have c33 : W4.cell? ⟨q, 33, none⟩ = some (.slice lp n lc) := (cell_of_row _ q _ _ _ _ HQ2.out).trans rfl
  go_upto_region 6 with (at_builtin; refine wpList_append_lie _ rfl _ _ 40 rfl (q + 1) 3 i0 Try.underlying40 hi hz0 hz1 hz2 _ n f rfl (HO2.out.alloc _) _ 1 1 (fun _ => x) rfl (lie_one W4 x (WalkArith.wf_i64 (by have := hx.out.lo; have := hx.out.hi; have := hm.out.high; omega))) (by omega) (by simp; omega) ?_; intro v' w2 hown hgrow; obtain ⟨lp2, lc2, rfl⟩ := owns_slice hown; have hq2 := first_row HQ2.out HO2.out hgrow; have cq : w2.cell? ⟨q, 33, none⟩ = some (.slice lp n lc) := (cell_of_row _ q _ _ _ _ hq2).trans rfl; have fq : ∀ j, w2.frozen? ⟨q, j, none⟩ = false := fun j => frozen_of_row _ _ j _ _ hq2)
  have HB3 : Hid (Below w.heap.size w w2) := (HB2.out.alloc HB2.out.size _).grown hgrow (by simp; omega) (fun g hg => by have := (HO2.out.lt g hg).1; omega)
  have HZ3 : Hid (w2.heap[w.heap.size + 1]? = some (.cells Z 42 (0, 0))) := (hgrow.block (w.heap.size + 1) (by simp; omega) (by intro e; have := (HO2.out.lt _ e.symm).1; omega)).trans ((heap_alloc_old W4 _ (by omega)).trans HZ2.out)
  have HQ3 : Hid (w2.heap[q]? = some (.cells (mcs P r (.slice lp n lc)) 42 (0, 0))) := hq2
  obtain ⟨a', c', e, hl, hfar⟩ := lie_of_own hown (fun i hi => by
    unfold cat
    split
    · exact hL.out.wf i (by omega)
    · show (Lit.int .i64 x).wf = true
      exact WalkArith.wf_i64 (by have := hx.out.lo; have := hx.out.hi; have := hm.out.high; omega))
  cases e
  have HL3 : Hid (Lie w2 lp2 (n + 1) lc2 (en f n x)) := hl
  have HA3 : Hid (Far (q + 1) lp2) := hfar
  clear hown hgrow hq2 hl hfar HB2 HZ2 HQ2 HO2
  obtain ⟨M, hM⟩ : ∃ M, Hid (M = mcs P r (.slice lp2 (n + 1) lc2)) := ⟨_, rfl⟩
  have eM : (mcs P r (.slice lp n lc)).setIfInBounds 33 (.slice lp2 (n + 1) lc2) = M := by rw [hM.out, set_F]
  have HQ4 : Hid ((w2.setCell ⟨q, 33, none⟩ (.slice lp2 (n + 1) lc2)).heap[q]? = some (.cells M 42 (0, 0))) := by rw [← eM]; exact row_setCell HQ3.out
  have HZ4 : Hid ((w2.setCell ⟨q, 33, none⟩ (.slice lp2 (n + 1) lc2)).heap[w.heap.size + 1]? = some (.cells Z 42 (0, 0))) := row_setCell_other HZ3.out (by omega)
  have HB4 : Hid (Below w.heap.size w (w2.setCell ⟨q, 33, none⟩ (.slice lp2 (n + 1) lc2))) := HB3.out.setCell (by show w.heap.size ≤ q; omega) _
  have MI : Hid ((Try.prog.info? 42).map (·.size) = some M.size) := map_info hM.out
  have MO : Hid (M.all (·.oneCell') = true) := by show _ = _; rw [hM.out]; exact ones_mcs _ _ _ _ _
  have MZ : Hid (Z.size = M.size) := by show _ = _; rw [hM.out, hZ.out]; rfl
  clear eM HQ3 HZ3 HB3
  go_wp2_with (first | (refine wpList_load_row_g (by rfl) 42 _ rfl _ rfl 42 _ (0, 0) _ HQ4.out Try.underlying42 rfl MI.out ?_) | (refine wpList_store_row rfl 42 _ _ rfl _ _ rfl rfl 42 _ HZ4.out MI.out MZ.out MO.out ?_))
  refine bodyPost_ret (v := .tuple #[.agg M, .bool true]) ?_ rfl ⟨⟨lp2, lc2, by rw [hM.out], ?_⟩, ?_⟩
  · have L2 := run_loadVar_row (P := Try.prog) _ _ 42 42 M (0, 0) _ (setRow_heap _ _ _ _ _ _ HZ4.out) Try.underlying42 rfl MI.out
    simp [results, Try.results29, asAddr, L2]
  · refine HL3.out.moved fun y hy => ?_
    have := HA3.out y hy
    rw [setRow_other _ _ _ _ (by omega)]
    exact heap_set_other _ (by omega)
  · exact below_row HB4.out (by omega) _
end Go.Proofs.Ytpiohehijkpghab
