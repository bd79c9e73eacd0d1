/- Taking back: the document. -/
import Derived.Test.YtpiohehijkpghabRenS
namespace Go.Proofs.Ytpiohehijkpghab
open Go.RowKit Go.Maps
open Hy
set_option linter.unusedVariables false
set_option linter.unusedSimpArgs false
theorem wp_append_lie {P : Program} (w : World) {o : Oper} {a : Act} {K : Act → World → Prop} {Q : Exit → Act → World → Prop} (s x : Operand) (t : TypeId)
    (ho : o.op = .call { callee := .builtin .append, args := #[s, x], argTypes := #[t, t] })
    (base : Nat) (e : TypeId) (i : TypeInfo) (ht : P.underlying t = some (.slice e)) (hi : P.info? e = some i) (hz : i.zero = some (.int .i64 0)) (hsize : i.size = 1) (hby : i.bytes = 8)
    (v : Value) (n : Nat) (F : Nat → Int) (hs : a.eval s = v) (hown : w.ownsRow base e 1 v n (row F n))
    (ao : Option Addr) (m c : Nat) (f : Nat → Int) (hx : a.eval x = .slice ao m c) (hl : Lie w ao m c f) (hb : n + m ≤ 1000000) (hbase : base ≤ w.heap.size)
    (h : ∀ v' w', w'.ownsRow base e 1 v' (n + m) (row (cat F n f) (n + m)) → w.grownBy w' v.ownBlock → K (a.put o.dst v') w') : o.wp P a w K Q := by
  cases ao with
  | some ad =>
    refine wp_append_own w s x t ho base e i (.int .i64 0) 1 8 ht hi hz hsize hby rfl (by decide) v n _ hs hown ad m c (row f m) hx (by rw [row_len]; omega) (fun j u hj => ?_) (row_one f m) (by unfold maxLen; omega) (by omega) hbase fun v' w' h1 h2 _ => h v' w' (by rw [← row_cat]; exact h1) h2
    obtain ⟨hj', rfl⟩ := row_at hj
    obtain ⟨b, o', rfl, hc⟩ := hl.ad ad rfl (by omega)
    rw [Addr.add_lit]
    exact hc j hj'
  | none =>
    obtain ⟨rfl, rfl⟩ := hl.nil rfl
    have hrun := run_append_owned_none (P := P) w base t o.type e i 1 ht hi v n _ hown
    unfold Oper.wp
    simp only [execOp, ho, resolve, invoke, builtin, Sem.run_bind, Sem.run_pure, Result.andThen_ok, List.map_toArray, List.map_cons, List.map_nil, hs, hx, hrun]
    exact h v w (by rw [← row_cat]; simpa [row] using hown) (World.grownBy.refl _ _)
set_option maxRecDepth 20000 in
set_option maxHeartbeats 1000000 in
theorem zUndo_yes (T : Array Value) (P : Int) (r f : Nat → Int) (a : Option Addr) (n c : Nat) (hT : Hid (T = mcs P r (.slice a n c))) (hm : Hid (MayBe P n r f))
    (h0 : T[0]? = some (.int .i64 P)) (hF : T[33]? = some (.slice a n c)) (hR : Hid (Rg r)) (k : Nat) (k0 : 1 ≤ k) (k1 : k < 32) (x : Int) (hx : Hid (Idle P n r f x)) (w : World) (hL : Hid (Lie w a n c f)) :
    Calls Try.prog 31 #[.agg T, .int .i64 k, .int .i64 x] w fun e w' => (∃ a' c', e = .returned (.tuple #[.agg (mcs P (up r k x) (.slice a' (n + 1) c')), .bool true]) ∧ Lie w' a' (n + 1) c' (hd (r k) f)) ∧ Below w.heap.size w w' := by
  have hn64 := hm.out.few.2
  have C1 := fun w => zother_any T P r f a n c x true hT ⟨fun _ => ⟨hm.out, hx.out⟩, fun _ => rfl⟩ h0 hF (by omega) w
  have HI : Hid ((Try.prog.info? 42).map (·.size) = some T.size) := map_info hT.out
  have HO : Hid (T.all (·.oneCell') = true) := by show _ = _; rw [hT.out]; exact ones_mcs _ _ _ _ _
  have HTZ : Hid ((34 : Nat) = T.size) := by show _ = _; rw [hT.out]; rfl
  have hcR : T[1 + k]? = some (.int .i64 (r k)) := by rw [hT.out]; exact mcs_R _ _ _ _ k1
  have z2 : decide ((k : Int) < 1) = false := by simp; omega
  have z3 : decide ((31 : Int) < (k : Int)) = false := by simp; omega
  go_enter Try.func31, Try.ntmps31
  go_upto_region 1 with fail
  refine two_new (Φ := fun W => Code.wp _ _ _ _ W) ?_
  intro W0 HR' HZ' HB' hs0
  have HR0 : Hid (W0.heap[w.heap.size]? = some (.cells T 42 (0, 0))) := HR'
  have HB0 : Hid (Below w.heap.size w W0) := HB'
  obtain ⟨Z, hZ, HZ0⟩ : ∃ Z : Array Value, Hid (Z.size = 34) ∧ Hid (W0.heap[w.heap.size + 1]? = some (.cells Z 42 (0, 0))) := ⟨zm, zm_size, HZ'⟩
  clear HR' HZ' HB'
  go_wp2_with (refine wpList_load_row_g (by rfl) 42 _ rfl _ rfl 42 _ (0, 0) _ HR0.out Try.underlying42 rfl HI.out ?_)
  refine (C1 _ (hL.out.below (Nat.le_refl _) HB0.out)).mono ?_
  rintro e W1 ⟨rfl, hk⟩
  have HR1 : Hid (W1.heap[w.heap.size]? = some (.cells T 42 (0, 0))) := (hk.block _ (heap_lt HR0.out)).trans HR0.out
  have HZ1 : Hid (W1.heap[w.heap.size + 1]? = some (.cells Z 42 (0, 0))) := (hk.block _ (heap_lt HZ0.out)).trans HZ0.out
  have HB1 : Hid (Below w.heap.size w W1) := HB0.out.trans (hk.mono HB0.out.size)
  have hs1 : w.heap.size + 1 < W1.heap.size := heap_lt HZ1.out
  clear hk HR0 HZ0 HB0 hs0 C1
  go_upto_region 3 with fail
  go_upto_region 4 with (first | (refine wpList_load_row_g (by rfl) 42 _ rfl _ rfl 42 _ (0, 0) _ HR1.out Try.underlying42 rfl HI.out ?_) | (refine wpList_store_new rfl 42 _ _ rfl T _ _ rfl rfl HI.out HTZ.out HO.out ?_; intro V ha hk))
  have hq : w.heap.size + 2 ≤ W1.heap.size := hs1
  have HQ1 : Hid (V.heap[W1.heap.size]? = some (.cells T 42 (0, 0))) := ha
  have HR : Hid (V.heap[w.heap.size]? = some (.cells T 42 (0, 0))) := (hk.block _ (by omega)).trans HR1.out
  have HZ : Hid (V.heap[w.heap.size + 1]? = some (.cells Z 42 (0, 0))) := (hk.block _ (by omega)).trans HZ1.out
  have HB : Hid (Below w.heap.size w V) := HB1.out.trans (hk.mono HB1.out.size)
  have hqs : W1.heap.size < V.heap.size := heap_lt HQ1.out
  clear ha hk HR1 HZ1 HB1 hs1
  generalize W1.heap.size = q at *
  have c33 : V.cell? ⟨w.heap.size, 33, none⟩ = some (.slice a n c) := (cell_of_row _ w.heap.size _ _ _ _ HR.out).trans hF
  have HL1 : Hid (Lie V a n c f) := hL.out.below (Nat.le_refl _) HB.out
  obtain ⟨i0, hi, hz0, hz1, hz2⟩ := info_parts info3
  have hs2 : w.heap.size < V.heap.size := by omega
  have cR : V.cell? ⟨w.heap.size, 1 + k, none⟩ = some (.int .i64 (r k)) := (cell_of_row _ w.heap.size _ _ _ _ HR.out).trans hcR
  refine wp_region_held_drew (S := fun w' => w'.heap[w.heap.size]? = some (.cells T 42 (0, 0))) (by kernel_rfl) HR.out (fun hH => ?_)
  try simp only [Act.put, List.getElem_toArray, List.getElem_cons_succ, List.getElem_cons_zero, List.setIfInBounds_toArray, List.set_cons_zero, List.set_cons_succ]
  refine wpAnyH_take (i := 0) (v := .int .i64 (k : Int)) rfl (by kernel_rfl) (by kernel_rfl) (by kernel_rfl) (fun _ _ _ h => h) (Or.inl ⟨by rfl, by intro w' hSw; go_simp⟩) hH ?_
  try simp only [Act.put, List.getElem_toArray, List.getElem_cons_succ, List.getElem_cons_zero, List.setIfInBounds_toArray, List.set_cons_zero, List.set_cons_succ]
  refine wpAnyH_take (i := 1) (v := .pointer (some ⟨w.heap.size, 1, none⟩)) rfl (by kernel_rfl) (by kernel_rfl) (by kernel_rfl) (fun _ _ _ h => h) (Or.inl ⟨by rfl, by intro w' hSw; go_simp⟩) hH ?_
  try simp only [Act.put, List.getElem_toArray, List.getElem_cons_succ, List.getElem_cons_zero, List.setIfInBounds_toArray, List.set_cons_zero, List.set_cons_succ]
  refine wpAnyH_take (i := 2) (v := .pointer (some ⟨w.heap.size, 1 + k, none⟩)) rfl (by kernel_rfl) (by kernel_rfl) (by kernel_rfl) (fun _ _ _ h => h) (Or.inl ⟨by rfl, by intro w' hSw; go_simp; intro h; omega⟩) hH ?_
  try simp only [Act.put, List.getElem_toArray, List.getElem_cons_succ, List.getElem_cons_zero, List.setIfInBounds_toArray, List.set_cons_zero, List.set_cons_succ]
  refine wpAnyH_take (i := 3) (v := .int .i64 (r k)) rfl (by kernel_rfl) (by kernel_rfl) (by kernel_rfl) (fun _ _ _ h => h) (Or.inl ⟨by rfl, by intro w' hSw; have hy := (cell_of_row w' w.heap.size _ _ _ _ hSw).trans hcR; go_simp⟩) hH ?_
  try simp only [Act.put, List.getElem_toArray, List.getElem_cons_succ, List.getElem_cons_zero, List.setIfInBounds_toArray, List.set_cons_zero, List.set_cons_succ]
  refine wpAnyH_take (i := 5) (v := .pointer (some ⟨w.heap.size, 33, none⟩)) rfl (by kernel_rfl) (by kernel_rfl) (by kernel_rfl) (fun _ _ _ h => h) (Or.inl ⟨by rfl, by intro w' hSw; go_simp⟩) hH ?_
  try simp only [Act.put, List.getElem_toArray, List.getElem_cons_succ, List.getElem_cons_zero, List.setIfInBounds_toArray, List.set_cons_zero, List.set_cons_succ]
  refine wpAnyH_take (i := 6) (v := .slice a n c) rfl (by kernel_rfl) (by kernel_rfl) (by kernel_rfl) (fun _ _ _ h => h) (Or.inl ⟨by rfl, by intro w' hSw; have hy := (cell_of_row w' w.heap.size _ _ _ _ hSw).trans hF; go_simp⟩) hH ?_
  try simp only [Act.put, List.getElem_toArray, List.getElem_cons_succ, List.getElem_cons_zero, List.setIfInBounds_toArray, List.set_cons_zero, List.set_cons_succ]
  refine wpAnyH_ready (rs := [4]) (by kernel_rfl) (by simp) ?_
  refine AllReadyH.cons rfl (fun K hK => ?_) AllReadyH.nil
  go_simp
  refine hK.out _ _ ((heap_alloc_old V _ hs2).trans HR.out) (fun hH => ?_)
  clear hK K
  try simp only [Act.put, List.getElem_toArray, List.getElem_cons_succ, List.getElem_cons_zero, List.setIfInBounds_toArray, List.set_cons_zero, List.set_cons_succ]
  refine wpAnyH_ready (rs := [7]) (by kernel_rfl) (by simp) ?_
  refine AllReadyH.cons rfl (fun K hK => ?_) AllReadyH.nil
  rw [if_pos (by rfl)]
  refine wp_append_lie _ _ _ 40 rfl V.heap.size 3 i0 Try.underlying40 hi hz0 hz1 hz2 _ 1 (fun _ => r k) rfl (own_one V (r k)) _ n c f rfl (HL1.out.below (Nat.le_refl _) ((Below.refl _ _).alloc (Nat.le_refl _) _).drew) (by omega) (by show V.heap.size ≤ (V.alloc _).heap.size; simp) ?_
  intro v' w1 hown hgrow
  obtain ⟨lp2, lc2, rfl⟩ := owns_slice hown
  have hr1 : w1.heap[w.heap.size]? = some (.cells T 42 (0, 0)) := (hgrow.block w.heap.size (by show _ < (V.alloc _).heap.size; simp; omega) (by intro e; have e2 : w.heap.size = V.heap.size := Option.some.inj e; omega)).trans ((heap_alloc_old V _ hs2).trans HR.out)
  have HQ2 : Hid (w1.heap[q]? = some (.cells T 42 (0, 0))) := (hgrow.block q (by show _ < (V.alloc _).heap.size; simp; omega) (by intro e; have e2 : q = V.heap.size := Option.some.inj e; omega)).trans ((heap_alloc_old V _ hqs).trans HQ1.out)
  have HZ2 : Hid (w1.heap[w.heap.size + 1]? = some (.cells Z 42 (0, 0))) := (hgrow.block (w.heap.size + 1) (by show _ < (V.alloc _).heap.size; simp; omega) (by intro e; have e2 : w.heap.size + 1 = V.heap.size := Option.some.inj e; omega)).trans ((heap_alloc_old V _ (by omega)).trans HZ.out)
  have HB2 : Hid (Below w.heap.size w w1) := ((HB.out.alloc HB.out.size _).drew).grown hgrow (by show _ ≤ (V.alloc _).heap.size; simp; omega) (fun g hg => by have e2 : V.heap.size = g := Option.some.inj hg; omega)
  obtain ⟨a', c', e, hl, hfar⟩ := lie_of_own hown (fun i hi => by
    unfold cat
    split
    · exact hR.out k k1
    · exact hL.out.wf _ (by omega))
  cases e
  have HL3 : Hid (Lie w1 lp2 (n + 1) lc2 (hd (r k) f)) := by
    show Lie _ _ _ _ _
    rw [Nat.add_comm n 1]
    exact hl.congr fun i _ => by unfold cat hd; by_cases h : i = 0 <;> simp [h]
  have HA3 : Hid (Far (q + 1) lp2) := hfar.mono hqs
  refine hK.out _ _ hr1 (fun hH => ?_)
  clear hK K hl hfar hown hgrow HR HZ HB HQ1 HL1 c33 cR hr1
  rw [Nat.add_comm 1 n]
  try simp only [Act.put, List.getElem_toArray, List.getElem_cons_succ, List.getElem_cons_zero, List.setIfInBounds_toArray, List.set_cons_zero, List.set_cons_succ]
  refine wpAnyH_take (i := 8) (v := .pointer (some ⟨q, 33, none⟩)) rfl (by kernel_rfl) (by kernel_rfl) (by kernel_rfl) (fun _ _ _ h => h) (Or.inl ⟨by rfl, by intro w' hSw; go_simp⟩) hH ?_
  try simp only [Act.put, List.getElem_toArray, List.getElem_cons_succ, List.getElem_cons_zero, List.setIfInBounds_toArray, List.set_cons_zero, List.set_cons_succ]
  have cq : w1.cell? ⟨q, 33, none⟩ = some (.slice a n c) := (cell_of_row _ q _ _ _ _ HQ2.out).trans hF
  have cq2 : w1.cell? ⟨q, 1 + k, none⟩ = some (.int .i64 (r k)) := (cell_of_row _ q _ _ _ _ HQ2.out).trans hcR
  have fq : ∀ j, w1.frozen? ⟨q, j, none⟩ = false := fun j => frozen_of_row _ _ j _ _ HQ2.out
  refine wpAnyH_ready (rs := [9]) (by kernel_rfl) (by simp) ?_
  refine AllReadyH.cons rfl (fun K hK => ?_) AllReadyH.nil
  go_simp
  refine hK.out _ _ (row_setCell_other hH (by omega)) (fun hH => ?_)
  clear hK K
  try simp only [Act.put, List.getElem_toArray, List.getElem_cons_succ, List.getElem_cons_zero, List.setIfInBounds_toArray, List.set_cons_zero, List.set_cons_succ]
  refine wpAnyH_done (by kernel_rfl) ?_ _
  try simp only [Act.put, List.getElem_toArray, List.getElem_cons_succ, List.getElem_cons_zero, List.setIfInBounds_toArray, List.set_cons_zero, List.set_cons_succ]
  obtain ⟨M, hM⟩ : ∃ M, Hid (M = mcs P (up r k x) (.slice lp2 (n + 1) lc2)) := ⟨_, rfl⟩
  have eM : (T.setIfInBounds 33 (.slice lp2 (n + 1) lc2)).setIfInBounds (1 + k) (.int .i64 x) = M := by rw [hM.out, hT.out, set_F, set_R _ _ _ _ _ k1]
  have HQ4 : Hid (((w1.setCell ⟨q, 33, none⟩ (.slice lp2 (n + 1) lc2)).setCell ⟨q, 1 + k, none⟩ (.int .i64 x)).heap[q]? = some (.cells M 42 (0, 0))) := by rw [← eM]; exact row_setCell (row_setCell HQ2.out)
  have HZ4 : Hid (((w1.setCell ⟨q, 33, none⟩ (.slice lp2 (n + 1) lc2)).setCell ⟨q, 1 + k, none⟩ (.int .i64 x)).heap[w.heap.size + 1]? = some (.cells Z 42 (0, 0))) := row_setCell_other (row_setCell_other HZ2.out (by omega)) (by omega)
  have HB4 : Hid (Below w.heap.size w ((w1.setCell ⟨q, 33, none⟩ (.slice lp2 (n + 1) lc2)).setCell ⟨q, 1 + k, none⟩ (.int .i64 x))) := (HB2.out.setCell (by show w.heap.size ≤ q; omega) _).setCell (by show w.heap.size ≤ q; omega) _
  have MI : Hid ((Try.prog.info? 42).map (·.size) = some M.size) := map_info hM.out
  have MO : Hid (M.all (·.oneCell') = true) := by show _ = _; rw [hM.out]; exact ones_mcs _ _ _ _ _
  have MZ : Hid (Z.size = M.size) := by show _ = _; rw [hM.out, hZ.out]; rfl
  clear eM HQ2 HZ2 HB2 hH
  go_wp2_with (first | (refine wpList_load_row_g (by rfl) 42 _ rfl _ rfl 42 _ (0, 0) _ HQ4.out Try.underlying42 rfl MI.out ?_) | (refine wpList_store_row rfl 42 _ _ rfl _ _ rfl rfl 42 _ HZ4.out MI.out MZ.out MO.out ?_))
  refine bodyPost_ret (v := .tuple #[.agg M, .bool true]) ?_ rfl ⟨⟨lp2, lc2, by rw [hM.out], ?_⟩, ?_⟩
  · have L2 := run_loadVar_row (P := Try.prog) _ _ 42 42 M (0, 0) _ (setRow_heap _ _ _ _ _ _ HZ4.out) Try.underlying42 rfl MI.out
    simp [results, Try.results31, asAddr, L2]
  · refine HL3.out.moved fun y hy => ?_
    have := HA3.out y hy
    rw [setRow_other _ _ _ _ (by omega)]
    exact (heap_set_other _ (by omega)).trans (heap_set_other _ (by omega))
  · exact below_row HB4.out (by omega) _
end Go.Proofs.Ytpiohehijkpghab
