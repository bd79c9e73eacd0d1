/- Taking a register: the document. -/
import Derived.Test.YtpiohehijkpghabRenP
import Derived.Test.YtpiohehijkpghabRenM
namespace Go.Proofs.Ytpiohehijkpghab
open Go.RowKit Go.Maps
open Hy
set_option linter.unusedVariables false
theorem lie_tail {w : World} {b o n c : Nat} {f : Nat → Int} (h : Lie w (some ⟨b, o, none⟩) n c f) (hn : 0 < n) {ao : Option Addr} (h1 : c = 1 → ao = some ⟨b, o, none⟩) (h2 : c ≠ 1 → ao = some ⟨b, o + 1, none⟩) : Lie w ao (n - 1) (c - 1) (tl f) := by
  have hle := h.le
  have htop := h.top
  obtain ⟨b', o', e, hc⟩ := h.ad _ rfl hn
  cases e
  by_cases hc1 : c = 1
  · rw [h1 hc1]
    exact ⟨by omega, by omega, fun h => (nomatch h), fun i hi => absurd hi (by omega), fun x hx _ => ⟨b, o, (Option.some.inj hx).symm, fun i hi => absurd hi (by omega)⟩⟩
  · rw [h2 hc1]
    refine ⟨by omega, by omega, fun h => (nomatch h), fun i hi => h.wf (i + 1) (by omega), fun x hx _ => ⟨b, o + 1, (Option.some.inj hx).symm, fun i hi => ?_⟩⟩
    have := hc (i + 1) (by omega)
    rw [show o + 1 + i = o + (i + 1) by omega]
    exact this
theorem own_zero {w : World} {B e m : Nat} {v : Value} {F f : Nat → Int} (h : w.ownsRow B e 1 v (0 + m) (row (cat F 0 f) (0 + m))) : w.ownsRow B e 1 v m (row f m) := by
  rw [row_congr (f' := cat F 0 f) (fun i _ => by simp [cat]), ← Nat.zero_add m]
  simpa using h
set_option maxRecDepth 20000 in
set_option maxHeartbeats 1000000 in
theorem zTake_yes (T : Array Value) (P : Int) (r f : Nat → Int) (a : Option Addr) (n c : Nat) (hT : Hid (T = mcs P r (.slice a n c))) (hm : Hid (MayBe P n r f))
    (h0 : T[0]? = some (.int .i64 P)) (hF : T[33]? = some (.slice a n c)) (k : Nat) (k0 : 1 ≤ k) (k1 : k < 32) (hn : 0 < n) (w : World) (hL : Hid (Lie w a n c f)) :
    Calls Try.prog 27 #[.agg T, .int .i64 k] w fun e w' => (∃ a' c', e = .returned (.tuple #[.agg (mcs P (up r k (f 0)) (.slice a' (n - 1) c')), .int .i64 (f 0), .int .i64 (r k), .bool true]) ∧ Lie w' a' (n - 1) c' (tl f)) ∧ Below w.heap.size w w' := by
  have hn64 := hm.out.few.2
  have C1 := fun w => zMay_any T P r f a n c true hT ⟨fun _ => hm.out, fun _ => rfl⟩ h0 hF (by omega) w
  obtain ⟨b, o, rfl, hb, hc⟩ := hL.out.sure hn
  have hcR : T[1 + k]? = some (.int .i64 (r k)) := by rw [hT.out]; exact mcs_R _ _ _ _ k1
  have HI : Hid ((Try.prog.info? 42).map (·.size) = some T.size) := map_info hT.out
  have HO : Hid (T.all (·.oneCell') = true) := by show _ = _; rw [hT.out]; exact ones_mcs _ _ _ _ _
  have HTZ : Hid ((34 : Nat) = T.size) := by show _ = _; rw [hT.out]; rfl
  go_enter Try.func27, Try.ntmps27
  go_upto_region 1 with fail
  refine two_new (Φ := fun W => Code.wp _ _ _ _ W) ?_
  intro W0 HR' HZ' HB' hs0
  have HR0 : Hid (W0.heap[w.heap.size]? = some (.cells T 42 (0, 0))) := HR'
  have HB0 : Hid (Below w.heap.size w W0) := HB'
  obtain ⟨Z, hZ, HZ0⟩ : ∃ Z : Array Value, Hid (Z.size = 34) ∧ Hid (W0.heap[w.heap.size + 1]? = some (.cells Z 42 (0, 0))) := ⟨zm, zm_size, HZ'⟩
  clear HR' HZ' HB'
  go_wp2_with (refine wpList_load_row_g (by rfl) 42 _ rfl _ rfl 42 _ (0, 0) _ HR0.out Try.underlying42 rfl HI.out ?_)
  refine (C1 _ (hL.out.below (Nat.le_refl _) HB0.out)).mono ?_
  rintro e W1 ⟨rfl, hk⟩
  have HR1 : Hid (W1.heap[w.heap.size]? = some (.cells T 42 (0, 0))) := (hk.block _ (heap_lt HR0.out)).trans HR0.out
  have HZ1 : Hid (W1.heap[w.heap.size + 1]? = some (.cells Z 42 (0, 0))) := (hk.block _ (heap_lt HZ0.out)).trans HZ0.out
  have HB1 : Hid (Below w.heap.size w W1) := HB0.out.trans (hk.mono HB0.out.size)
  have hs1 : w.heap.size + 1 < W1.heap.size := heap_lt HZ1.out
  clear hk HR0 HZ0 HB0 hs0 C1
  have c33 : W1.cell? ⟨w.heap.size, 33, none⟩ = some (.slice (some ⟨b, o, none⟩) n c) := (cell_of_row _ w.heap.size _ _ _ _ HR1.out).trans hF
  have cR : W1.cell? ⟨w.heap.size, 1 + k, none⟩ = some (.int .i64 (r k)) := (cell_of_row _ w.heap.size _ _ _ _ HR1.out).trans hcR
  have cF : W1.cell? ⟨b, o, none⟩ = some (.int .i64 (f 0)) := (HB1.out.cell (p := ⟨b, o, none⟩) hb).trans (hc 0 hn)
  clear hc
  have z1 : ((n : Int) == 0) = false := by simp; omega
  have z2 : decide ((k : Int) < 1) = false := by simp; omega
  have z3 : decide ((31 : Int) < (k : Int)) = false := by simp; omega
  go_upto_region 5 with fail
  go_upto_region 6 with (first | (refine wpList_load_row_g (by rfl) 42 _ rfl _ rfl 42 _ (0, 0) _ HR1.out Try.underlying42 rfl HI.out ?_) | (refine wpList_store_new rfl 42 _ _ rfl T _ _ rfl rfl HI.out HTZ.out HO.out ?_; intro V ha hk))
  have hq : w.heap.size + 2 ≤ W1.heap.size := hs1
  have HQ : Hid (V.heap[W1.heap.size]? = some (.cells T 42 (0, 0))) := ha
  have HR : Hid (V.heap[w.heap.size]? = some (.cells T 42 (0, 0))) := (hk.block _ (by omega)).trans HR1.out
  have HZ : Hid (V.heap[w.heap.size + 1]? = some (.cells Z 42 (0, 0))) := (hk.block _ (by omega)).trans HZ1.out
  have HB : Hid (Below w.heap.size w V) := HB1.out.trans (hk.mono HB1.out.size)
  clear ha hk HR1 HZ1 HB1 c33 cR cF hs1
  generalize W1.heap.size = q at *
  have cq : V.cell? ⟨q, 1 + k, none⟩ = some (.int .i64 (r k)) := (cell_of_row _ q _ _ _ _ HQ.out).trans hcR
  have fq : ∀ j, V.frozen? ⟨q, j, none⟩ = false := fun j => frozen_of_row _ _ j _ _ HQ.out
  go_upto_region 7 with fail
  have HQ1 : Hid ((V.setCell ⟨q, 1 + k, none⟩ (.int .i64 (f 0))).heap[q]? = some (.cells (T.setIfInBounds (1 + k) (.int .i64 (f 0))) 42 (0, 0))) := row_setCell HQ.out
  have HR1 : Hid ((V.setCell ⟨q, 1 + k, none⟩ (.int .i64 (f 0))).heap[w.heap.size]? = some (.cells T 42 (0, 0))) := row_setCell_other HR.out (by omega)
  have HZ1 : Hid ((V.setCell ⟨q, 1 + k, none⟩ (.int .i64 (f 0))).heap[w.heap.size + 1]? = some (.cells Z 42 (0, 0))) := row_setCell_other HZ.out (by omega)
  have HB1 : Hid (Below w.heap.size w (V.setCell ⟨q, 1 + k, none⟩ (.int .i64 (f 0)))) := HB.out.setCell (by show w.heap.size ≤ q; omega) _
  have hqs : q < (V.setCell ⟨q, 1 + k, none⟩ (.int .i64 (f 0))).heap.size := heap_lt HQ1.out
  clear cq fq HQ HR HZ HB
  generalize V.setCell ⟨q, 1 + k, none⟩ (.int .i64 (f 0)) = V1 at *
  have c33 : V1.cell? ⟨w.heap.size, 33, none⟩ = some (.slice (some ⟨b, o, none⟩) n c) := (cell_of_row _ w.heap.size _ _ _ _ HR1.out).trans hF
  have HL1 : Hid (Lie V1 (some ⟨b, o, none⟩) n c f) := hL.out.below (Nat.le_refl _) HB1.out
  obtain ⟨i0, hi, hz0, hz1, hz2⟩ := info_parts info3
  have hs2 : w.heap.size < V1.heap.size := by omega
  go_upto_region 8 with (at_builtin; (refine wpList_append_lie _ rfl _ _ 40 rfl V1.heap.size 3 i0 Try.underlying40 hi hz0 hz1 hz2 _ 0 f rfl (World.ownsRow_made V1 #[] 0 (Nat.le_refl _) (Nat.zero_le _) rfl) _ (n - 1) (c - 1) (tl f) rfl (lie_tail (HL1.out.below (Nat.le_refl _) ((Below.refl _ _).alloc (Nat.le_refl _) _)) hn (by intro h; first | rfl | simp [h]) (by intro h; first | rfl | simp [h])) (by omega) (by simp) ?_; intro v' w1 hown0 hgrow; have hown := own_zero hown0; clear hown0; obtain ⟨lp, lc, rfl⟩ := owns_slice hown; have hq1 : w1.heap[q]? = some (.cells (T.setIfInBounds (1 + k) (.int .i64 (f 0))) 42 (0, 0)) := (hgrow.block q (by simp; omega) (by intro e; have e2 : q = V1.heap.size := Option.some.inj e; omega)).trans ((heap_alloc_old V1 _ hqs).trans HQ1.out); have cq : w1.cell? ⟨q, 33, none⟩ = some (.slice (some ⟨b, o, none⟩) n c) := (cell_of_row _ q _ _ _ _ hq1).trans (by rw [hT.out, set_R _ _ _ _ _ k1]; rfl); have fq : ∀ j, w1.frozen? ⟨q, j, none⟩ = false := fun j => frozen_of_row _ _ j _ _ hq1))
  have HB2 : Hid (Below w.heap.size w w1) := ((HB1.out.alloc HB1.out.size _).grown hgrow (by simp; omega) (fun g hg => by have e2 : V1.heap.size = g := Option.some.inj hg; omega))
  have HZ2 : Hid (w1.heap[w.heap.size + 1]? = some (.cells Z 42 (0, 0))) := (hgrow.block (w.heap.size + 1) (by simp; omega) (by intro e; have e2 : w.heap.size + 1 = V1.heap.size := Option.some.inj e; omega)).trans ((heap_alloc_old V1 _ (by omega)).trans HZ1.out)
  have HQ2 : Hid (w1.heap[q]? = some (.cells (T.setIfInBounds (1 + k) (.int .i64 (f 0))) 42 (0, 0))) := hq1
  obtain ⟨a', c', e, hl, hfar⟩ := lie_of_own hown (fun i hi => hL.out.wf (i + 1) (by omega))
  cases e
  have HL2 : Hid (Lie w1 lp (n - 1) lc (tl f)) := hl
  have HA2 : Hid (Far (q + 1) lp) := hfar.mono hqs
  clear hown hgrow hq1 hl hfar HB1 HZ1 HQ1 HR1 HL1 c33
  obtain ⟨M, hM⟩ : ∃ M, Hid (M = mcs P (up r k (f 0)) (.slice lp (n - 1) lc)) := ⟨_, rfl⟩
  have eM : (T.setIfInBounds (1 + k) (.int .i64 (f 0))).setIfInBounds 33 (.slice lp (n - 1) lc) = M := by rw [hM.out, hT.out, set_R _ _ _ _ _ k1, set_F]
  have HQ3 : Hid ((w1.setCell ⟨q, 33, none⟩ (.slice lp (n - 1) lc)).heap[q]? = some (.cells M 42 (0, 0))) := by rw [← eM]; exact row_setCell HQ2.out
  have HZ3 : Hid ((w1.setCell ⟨q, 33, none⟩ (.slice lp (n - 1) lc)).heap[w.heap.size + 1]? = some (.cells Z 42 (0, 0))) := row_setCell_other HZ2.out (by omega)
  have HB3 : Hid (Below w.heap.size w (w1.setCell ⟨q, 33, none⟩ (.slice lp (n - 1) lc))) := HB2.out.setCell (by show w.heap.size ≤ q; omega) _
  have MI : Hid ((Try.prog.info? 42).map (·.size) = some M.size) := map_info hM.out
  have MO : Hid (M.all (·.oneCell') = true) := by show _ = _; rw [hM.out]; exact ones_mcs _ _ _ _ _
  have MZ : Hid (Z.size = M.size) := by show _ = _; rw [hM.out, hZ.out]; rfl
  clear eM HQ2 HZ2 HB2
  go_wp2_with (first | (refine wpList_load_row_g (by rfl) 42 _ rfl _ rfl 42 _ (0, 0) _ HQ3.out Try.underlying42 rfl MI.out ?_) | (refine wpList_store_row rfl 42 _ _ rfl _ _ rfl rfl 42 _ HZ3.out MI.out MZ.out MO.out ?_))
  all_goals
    refine bodyPost_ret (v := .tuple #[.agg M, .int .i64 (f 0), .int .i64 (r k), .bool true]) ?_ rfl ⟨⟨lp, lc, by rw [hM.out], ?_⟩, ?_⟩
    · have L2 := run_loadVar_row (P := Try.prog) _ _ 42 42 M (0, 0) _ (setRow_heap _ _ _ _ _ _ HZ3.out) Try.underlying42 rfl MI.out
      simp [results, Try.results27, asAddr, L2]
    · refine HL2.out.moved fun y hy => ?_
      have := HA2.out y hy
      rw [setRow_other _ _ _ _ (by omega)]
      exact heap_set_other _ (by omega)
    · exact below_row HB3.out (by omega) _
end Go.Proofs.Ytpiohehijkpghab
