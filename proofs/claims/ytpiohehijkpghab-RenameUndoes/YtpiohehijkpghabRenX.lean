/- RenameTells, walked. -/
import Derived.Test.YtpiohehijkpghabRenW
namespace Go.Proofs.Ytpiohehijkpghab
open Go.RowKit Go.Maps
open Hy
set_option linter.unusedVariables false
set_option linter.unusedSimpArgs false
set_option maxRecDepth 20000 in
set_option maxHeartbeats 1000000 in
theorem renames (T : Array Value) (P : Int) (r f : Nat → Int) (a : Option Addr) (n c : Nat) (hT : Hid (Mp T P r a n c)) (ph rd p : Int) (w : World) (hL : Hid (Lie w a n c f)) :
    Calls Try.prog 5 #[.agg T, .int .i64 ph, .int .i64 rd, .int .i64 p] w fun e w' => e = .returned (.bool true) ∧ Below w.heap.size w w' := by
  obtain ⟨P1, r1, f1, n1, er, few1, N1, N2⟩ := new_both ph
  obtain ⟨mb, _, M1, M2⟩ := may_both (f := f) hT.out
  obtain ⟨P2, r2, f2, n2, one, old, ok, few2, T1, T2⟩ := take_both (f := f) hT.out rd
  obtain ⟨P3, r3, f3, n3, gok, few3, G1, G2⟩ := give_both (f := f) hT.out p
  obtain ⟨P4, r4, f4, n4, uok, few4, UA, UB⟩ := undo_both (f := f) hT.out rd p
  have Im : Hid ((Try.prog.info? 42).map (·.size) = some T.size) := map_info hT.out.is
  go_enter Try.func5, Try.ntmps5
  go_upto_region 1 with fail
  refine one_box (Φ := fun W => Code.wp _ _ _ _ W) ?_
  intro W0 HR' HB'
  have Rm_0 : Hid (W0.heap[w.heap.size]? = some (.cells T 42 (0, 0))) := HR'
  have B_0 : Hid (Below w.heap.size w W0) := HB'
  have Lm_0 : Hid (Lie W0 a n c f) := hL.out.below (Nat.le_refl _) HB'
  clear HR' HB'
  go_wp2_with (fail)
  refine (N1 _).mono ?_
  rintro e V1 ⟨⟨aN, cN, rfl, hl⟩, hk⟩
  obtain ⟨N, hN⟩ : ∃ X, Hid (X = mcs P1 r1 (.slice aN n1 cN)) := ⟨_, rfl⟩
  rw [← hN.out]
  have IN : Hid ((Try.prog.info? 42).map (·.size) = some N.size) := map_info hN.out
  have ON : Hid (N.all (·.oneCell') = true) := by show _ = _; rw [hN.out]; exact ones_mcs _ _ _ _ _
  have SN : Hid ((34 : Nat) = N.size) := by show _ = _; rw [hN.out]; rfl
  have Rm_1 : Hid (V1.heap[w.heap.size]? = some (.cells T 42 (0, 0))) := (hk.block _ (heap_lt Rm_0.out)).trans Rm_0.out
  have Lm_1 : Hid (Lie V1 a n c f) := Lm_0.out.below (Nat.le_refl _) hk
  have B_1 : Hid (Below w.heap.size w V1) := B_0.out.trans (hk.mono B_0.out.size)
  clear hk B_0 Rm_0 Lm_0
  have LN_1 : Hid (Lie V1 aN n1 cN f1) := hl
  clear hl
  go_upto_region 2 with (refine wpList_store_new rfl 42 _ _ rfl N _ _ rfl rfl IN.out SN.out ON.out ?_; intro U1 ha hk)
  have Rm_2 : Hid (U1.heap[w.heap.size]? = some (.cells T 42 (0, 0))) := (hk.block _ (heap_lt Rm_1.out)).trans Rm_1.out
  have Lm_2 : Hid (Lie U1 a n c f) := Lm_1.out.below (Nat.le_refl _) hk
  have LN_2 : Hid (Lie U1 aN n1 cN f1) := LN_1.out.below (Nat.le_refl _) hk
  have B_2 : Hid (Below w.heap.size w U1) := B_1.out.trans (hk.mono B_1.out.size)
  clear hk B_1 Rm_1 Lm_1 LN_1
  have RN_2 : Hid (U1.heap[V1.heap.size]? = some (.cells N 42 (0, 0))) := ha
  clear ha
  generalize V1.heap.size = qN at *
  go_wp2_with (fail)
  refine (N2 _).mono ?_
  rintro e V2 ⟨⟨aX, cX, rfl, hl⟩, hk⟩
  obtain ⟨X, hX⟩ : ∃ X, Hid (X = mcs P1 r1 (.slice aX n1 cX)) := ⟨_, rfl⟩
  rw [← hX.out]
  have IX : Hid ((Try.prog.info? 42).map (·.size) = some X.size) := map_info hX.out
  have OX : Hid (X.all (·.oneCell') = true) := by show _ = _; rw [hX.out]; exact ones_mcs _ _ _ _ _
  have SX : Hid ((34 : Nat) = X.size) := by show _ = _; rw [hX.out]; rfl
  have Rm_3 : Hid (V2.heap[w.heap.size]? = some (.cells T 42 (0, 0))) := (hk.block _ (heap_lt Rm_2.out)).trans Rm_2.out
  have RN_3 : Hid (V2.heap[qN]? = some (.cells N 42 (0, 0))) := (hk.block _ (heap_lt RN_2.out)).trans RN_2.out
  have Lm_3 : Hid (Lie V2 a n c f) := Lm_2.out.below (Nat.le_refl _) hk
  have LN_3 : Hid (Lie V2 aN n1 cN f1) := LN_2.out.below (Nat.le_refl _) hk
  have B_3 : Hid (Below w.heap.size w V2) := B_2.out.trans (hk.mono B_2.out.size)
  clear hk B_2 Rm_2 RN_2 Lm_2 LN_2
  have LX_3 : Hid (Lie V2 aX n1 cX f1) := hl
  clear hl
  go_upto_region 3 with (refine wpList_store_new rfl 42 _ _ rfl X _ _ rfl rfl IX.out SX.out OX.out ?_; intro U2 ha hk)
  have Rm_4 : Hid (U2.heap[w.heap.size]? = some (.cells T 42 (0, 0))) := (hk.block _ (heap_lt Rm_3.out)).trans Rm_3.out
  have RN_4 : Hid (U2.heap[qN]? = some (.cells N 42 (0, 0))) := (hk.block _ (heap_lt RN_3.out)).trans RN_3.out
  have Lm_4 : Hid (Lie U2 a n c f) := Lm_3.out.below (Nat.le_refl _) hk
  have LN_4 : Hid (Lie U2 aN n1 cN f1) := LN_3.out.below (Nat.le_refl _) hk
  have LX_4 : Hid (Lie U2 aX n1 cX f1) := LX_3.out.below (Nat.le_refl _) hk
  have B_4 : Hid (Below w.heap.size w U2) := B_3.out.trans (hk.mono B_3.out.size)
  clear hk B_3 Rm_3 RN_3 Lm_3 LN_3 LX_3
  have RX_4 : Hid (U2.heap[V2.heap.size]? = some (.cells X 42 (0, 0))) := ha
  clear ha
  generalize V2.heap.size = qX at *
  refine wp_region_held_drew (S := fun w' => Below U2.heap.size U2 w') (by kernel_rfl) ((Below.refl _ _).drew) (fun hH => ?_)
  try simp only [Act.put, List.getElem_toArray, List.getElem_cons_succ, List.getElem_cons_zero, List.setIfInBounds_toArray, List.set_cons_zero, List.set_cons_succ]
  refine wpAnyH_take (i := 0) (v := .int .i64 er) rfl (by kernel_rfl) (by kernel_rfl) (by kernel_rfl) (fun _ _ _ h => h) (Or.inl ⟨by rfl, by intro w' hSw; go_simp⟩) hH ?_
  try simp only [Act.put, List.getElem_toArray, List.getElem_cons_succ, List.getElem_cons_zero, List.setIfInBounds_toArray, List.set_cons_zero, List.set_cons_succ]
  refine wpAnyH_take (i := 1) (v := .int .i64 er) rfl (by kernel_rfl) (by kernel_rfl) (by kernel_rfl) (fun _ _ _ h => h) (Or.inl ⟨by rfl, by intro w' hSw; go_simp⟩) hH ?_
  try simp only [Act.put, List.getElem_toArray, List.getElem_cons_succ, List.getElem_cons_zero, List.setIfInBounds_toArray, List.set_cons_zero, List.set_cons_succ]
  refine wpAnyH_take (i := 2) (v := .bool false) rfl (by kernel_rfl) (by kernel_rfl) (by kernel_rfl) (fun _ _ _ h => h) (Or.inl ⟨by rfl, by intro w' hSw; go_simp⟩) hH ?_
  try simp only [Act.put, List.getElem_toArray, List.getElem_cons_succ, List.getElem_cons_zero, List.setIfInBounds_toArray, List.set_cons_zero, List.set_cons_succ]
  refine wpAnyH_take (i := 3) (v := .bool false) rfl (by kernel_rfl) (by kernel_rfl) (by kernel_rfl) (fun _ _ _ h => h) (Or.inl ⟨by rfl, by intro w' hSw; go_simp⟩) hH ?_
  try simp only [Act.put, List.getElem_toArray, List.getElem_cons_succ, List.getElem_cons_zero, List.setIfInBounds_toArray, List.set_cons_zero, List.set_cons_succ]
  refine wpAnyH_take (i := 4) (v := .agg N) rfl (by kernel_rfl) (by kernel_rfl) (by kernel_rfl) (fun _ _ _ h => h) (yieldsIf_load_row (by rfl) 42 _ rfl _ rfl 42 _ (0, 0) _ (fun w' hSw => (hSw.block _ (heap_lt RN_4.out)).trans RN_4.out) Try.underlying42 rfl IN.out) hH ?_
  try simp only [Act.put, List.getElem_toArray, List.getElem_cons_succ, List.getElem_cons_zero, List.setIfInBounds_toArray, List.set_cons_zero, List.set_cons_succ]
  refine wpAnyH_take (i := 5) (v := .agg X) rfl (by kernel_rfl) (by kernel_rfl) (by kernel_rfl) (fun _ _ _ h => h) (yieldsIf_load_row (by rfl) 42 _ rfl _ rfl 42 _ (0, 0) _ (fun w' hSw => (hSw.block _ (heap_lt RX_4.out)).trans RX_4.out) Try.underlying42 rfl IX.out) hH ?_
  try simp only [Act.put, List.getElem_toArray, List.getElem_cons_succ, List.getElem_cons_zero, List.setIfInBounds_toArray, List.set_cons_zero, List.set_cons_succ]
  refine wpAnyH_ready (rs := [6]) (by kernel_rfl) (by simp) ?_
  refine AllReadyH.cons rfl (fun K hK => ?_) AllReadyH.nil
  go_simp
  have hs := zSame_yes P1 r1 f1 aN aX n1 cN cX few1 _ (LN_4.out.below (Nat.le_refl _) hH) (LX_4.out.below (Nat.le_refl _) hH)
  rw [← hN.out, ← hX.out] at hs
  refine (hs).mono ?_
  rintro e Y1 ⟨rfl, hk⟩
  go_wp2_with fail
  refine hK.out _ _ (hH.trans (hk.mono hH.size)) (fun hH => ?_)
  clear hK K hk
  try simp only [Act.put, List.getElem_toArray, List.getElem_cons_succ, List.getElem_cons_zero, List.setIfInBounds_toArray, List.set_cons_zero, List.set_cons_succ]
  clear hs
  refine wpAnyH_take (i := 7) (v := .bool false) rfl (by kernel_rfl) (by kernel_rfl) (by kernel_rfl) (fun _ _ _ h => h) (Or.inl ⟨by rfl, by intro w' hSw; go_simp⟩) hH ?_
  try simp only [Act.put, List.getElem_toArray, List.getElem_cons_succ, List.getElem_cons_zero, List.setIfInBounds_toArray, List.set_cons_zero, List.set_cons_succ]
  refine wpAnyH_take (i := 8) (v := .bool false) rfl (by kernel_rfl) (by kernel_rfl) (by kernel_rfl) (fun _ _ _ h => h) (Or.inl ⟨by rfl, by intro w' hSw; go_simp⟩) hH ?_
  try simp only [Act.put, List.getElem_toArray, List.getElem_cons_succ, List.getElem_cons_zero, List.setIfInBounds_toArray, List.set_cons_zero, List.set_cons_succ]
  refine wpAnyH_take (i := 9) (v := .bool false) rfl (by kernel_rfl) (by kernel_rfl) (by kernel_rfl) (fun _ _ _ h => h) (Or.inl ⟨by rfl, by intro w' hSw; go_simp⟩) hH ?_
  try simp only [Act.put, List.getElem_toArray, List.getElem_cons_succ, List.getElem_cons_zero, List.setIfInBounds_toArray, List.set_cons_zero, List.set_cons_succ]
  refine wpAnyH_take (i := 10) (v := .agg T) rfl (by kernel_rfl) (by kernel_rfl) (by kernel_rfl) (fun _ _ _ h => h) (yieldsIf_load_row (by rfl) 42 _ rfl _ rfl 42 _ (0, 0) _ (fun w' hSw => (hSw.block _ (heap_lt Rm_4.out)).trans Rm_4.out) Try.underlying42 rfl Im.out) hH ?_
  try simp only [Act.put, List.getElem_toArray, List.getElem_cons_succ, List.getElem_cons_zero, List.setIfInBounds_toArray, List.set_cons_zero, List.set_cons_succ]
  refine wpAnyH_take (i := 12) (v := .agg T) rfl (by kernel_rfl) (by kernel_rfl) (by kernel_rfl) (fun _ _ _ h => h) (yieldsIf_load_row (by rfl) 42 _ rfl _ rfl 42 _ (0, 0) _ (fun w' hSw => (hSw.block _ (heap_lt Rm_4.out)).trans Rm_4.out) Try.underlying42 rfl Im.out) hH ?_
  try simp only [Act.put, List.getElem_toArray, List.getElem_cons_succ, List.getElem_cons_zero, List.setIfInBounds_toArray, List.set_cons_zero, List.set_cons_succ]
  refine wpAnyH_ready (rs := [11]) (by kernel_rfl) (by simp) ?_
  refine AllReadyH.cons rfl (fun K hK => ?_) AllReadyH.nil
  go_simp
  refine (M1 _ (Lm_4.out.below (Nat.le_refl _) hH)).mono ?_
  rintro e Y2 ⟨rfl, hk⟩
  go_wp2_with fail
  refine hK.out _ _ (hH.trans (hk.mono hH.size)) (fun hH => ?_)
  clear hK K hk
  try simp only [Act.put, List.getElem_toArray, List.getElem_cons_succ, List.getElem_cons_zero, List.setIfInBounds_toArray, List.set_cons_zero, List.set_cons_succ]
  refine wpAnyH_ready (rs := [13]) (by kernel_rfl) (by simp) ?_
  refine AllReadyH.cons rfl (fun K hK => ?_) AllReadyH.nil
  go_simp
  refine (M2 _ (Lm_4.out.below (Nat.le_refl _) hH)).mono ?_
  rintro e Y3 ⟨rfl, hk⟩
  go_wp2_with fail
  refine hK.out _ _ (hH.trans (hk.mono hH.size)) (fun hH => ?_)
  clear hK K hk
  try simp only [Act.put, List.getElem_toArray, List.getElem_cons_succ, List.getElem_cons_zero, List.setIfInBounds_toArray, List.set_cons_zero, List.set_cons_succ]
  refine wpAnyH_take (i := 14) (v := .bool false) rfl (by kernel_rfl) (by kernel_rfl) (by kernel_rfl) (fun _ _ _ h => h) (Or.inl ⟨by rfl, by intro w' hSw; go_simp⟩) hH ?_
  try simp only [Act.put, List.getElem_toArray, List.getElem_cons_succ, List.getElem_cons_zero, List.setIfInBounds_toArray, List.set_cons_zero, List.set_cons_succ]
  refine wpAnyH_take (i := 15) (v := .bool false) rfl (by kernel_rfl) (by kernel_rfl) (by kernel_rfl) (fun _ _ _ h => h) (Or.inl ⟨by rfl, by intro w' hSw; go_simp⟩) hH ?_
  try simp only [Act.put, List.getElem_toArray, List.getElem_cons_succ, List.getElem_cons_zero, List.setIfInBounds_toArray, List.set_cons_zero, List.set_cons_succ]
  refine wpAnyH_done (by kernel_rfl) ?_ _
  try simp only [Act.put, List.getElem_toArray, List.getElem_cons_succ, List.getElem_cons_zero, List.setIfInBounds_toArray, List.set_cons_zero, List.set_cons_succ]
  have Rm_5 : Hid (Y3.heap[w.heap.size]? = some (.cells T 42 (0, 0))) := (hH.block _ (heap_lt Rm_4.out)).trans Rm_4.out
  have RN_5 : Hid (Y3.heap[qN]? = some (.cells N 42 (0, 0))) := (hH.block _ (heap_lt RN_4.out)).trans RN_4.out
  have RX_5 : Hid (Y3.heap[qX]? = some (.cells X 42 (0, 0))) := (hH.block _ (heap_lt RX_4.out)).trans RX_4.out
  have Lm_5 : Hid (Lie Y3 a n c f) := Lm_4.out.below (Nat.le_refl _) hH
  have LN_5 : Hid (Lie Y3 aN n1 cN f1) := LN_4.out.below (Nat.le_refl _) hH
  have LX_5 : Hid (Lie Y3 aX n1 cX f1) := LX_4.out.below (Nat.le_refl _) hH
  have B_5 : Hid (Below w.heap.size w Y3) := B_4.out.trans (hH.mono B_4.out.size)
  clear hH B_4 Rm_4 RN_4 RX_4 Lm_4 LN_4 LX_4
  go_wp2_with ((refine wpList_load_row_g (by rfl) 42 _ rfl _ rfl 42 _ (0, 0) _ Rm_5.out Try.underlying42 rfl Im.out ?_))
  refine (T1 _ Lm_5.out).mono ?_
  rintro e V3 ⟨⟨aA, cA, rfl, hl⟩, hk⟩
  obtain ⟨A, hA⟩ : ∃ X, Hid (X = mcs P2 r2 (.slice aA n2 cA)) := ⟨_, rfl⟩
  rw [← hA.out]
  have IA : Hid ((Try.prog.info? 42).map (·.size) = some A.size) := map_info hA.out
  have OA : Hid (A.all (·.oneCell') = true) := by show _ = _; rw [hA.out]; exact ones_mcs _ _ _ _ _
  have SA : Hid ((34 : Nat) = A.size) := by show _ = _; rw [hA.out]; rfl
  have Rm_6 : Hid (V3.heap[w.heap.size]? = some (.cells T 42 (0, 0))) := (hk.block _ (heap_lt Rm_5.out)).trans Rm_5.out
  have RN_6 : Hid (V3.heap[qN]? = some (.cells N 42 (0, 0))) := (hk.block _ (heap_lt RN_5.out)).trans RN_5.out
  have RX_6 : Hid (V3.heap[qX]? = some (.cells X 42 (0, 0))) := (hk.block _ (heap_lt RX_5.out)).trans RX_5.out
  have Lm_6 : Hid (Lie V3 a n c f) := Lm_5.out.below (Nat.le_refl _) hk
  have LN_6 : Hid (Lie V3 aN n1 cN f1) := LN_5.out.below (Nat.le_refl _) hk
  have LX_6 : Hid (Lie V3 aX n1 cX f1) := LX_5.out.below (Nat.le_refl _) hk
  have B_6 : Hid (Below w.heap.size w V3) := B_5.out.trans (hk.mono B_5.out.size)
  clear hk B_5 Rm_5 RN_5 RX_5 Lm_5 LN_5 LX_5
  have LA_6 : Hid (Lie V3 aA n2 cA f2) := hl
  clear hl
  go_upto_region 6 with (refine wpList_store_new rfl 42 _ _ rfl A _ _ rfl rfl IA.out SA.out OA.out ?_; intro U3 ha hk)
  have Rm_7 : Hid (U3.heap[w.heap.size]? = some (.cells T 42 (0, 0))) := (hk.block _ (heap_lt Rm_6.out)).trans Rm_6.out
  have RN_7 : Hid (U3.heap[qN]? = some (.cells N 42 (0, 0))) := (hk.block _ (heap_lt RN_6.out)).trans RN_6.out
  have RX_7 : Hid (U3.heap[qX]? = some (.cells X 42 (0, 0))) := (hk.block _ (heap_lt RX_6.out)).trans RX_6.out
  have Lm_7 : Hid (Lie U3 a n c f) := Lm_6.out.below (Nat.le_refl _) hk
  have LN_7 : Hid (Lie U3 aN n1 cN f1) := LN_6.out.below (Nat.le_refl _) hk
  have LX_7 : Hid (Lie U3 aX n1 cX f1) := LX_6.out.below (Nat.le_refl _) hk
  have LA_7 : Hid (Lie U3 aA n2 cA f2) := LA_6.out.below (Nat.le_refl _) hk
  have B_7 : Hid (Below w.heap.size w U3) := B_6.out.trans (hk.mono B_6.out.size)
  clear hk B_6 Rm_6 RN_6 RX_6 Lm_6 LN_6 LX_6 LA_6
  have RA_7 : Hid (U3.heap[V3.heap.size]? = some (.cells A 42 (0, 0))) := ha
  clear ha
  generalize V3.heap.size = qA at *
  go_wp2_with ((refine wpList_load_row_g (by rfl) 42 _ rfl _ rfl 42 _ (0, 0) _ Rm_7.out Try.underlying42 rfl Im.out ?_))
  refine (T2 _ Lm_7.out).mono ?_
  rintro e V4 ⟨⟨aB, cB, rfl, hl⟩, hk⟩
  obtain ⟨B, hB⟩ : ∃ X, Hid (X = mcs P2 r2 (.slice aB n2 cB)) := ⟨_, rfl⟩
  rw [← hB.out]
  have IB : Hid ((Try.prog.info? 42).map (·.size) = some B.size) := map_info hB.out
  have OB : Hid (B.all (·.oneCell') = true) := by show _ = _; rw [hB.out]; exact ones_mcs _ _ _ _ _
  have SB : Hid ((34 : Nat) = B.size) := by show _ = _; rw [hB.out]; rfl
  have Rm_8 : Hid (V4.heap[w.heap.size]? = some (.cells T 42 (0, 0))) := (hk.block _ (heap_lt Rm_7.out)).trans Rm_7.out
  have RN_8 : Hid (V4.heap[qN]? = some (.cells N 42 (0, 0))) := (hk.block _ (heap_lt RN_7.out)).trans RN_7.out
  have RX_8 : Hid (V4.heap[qX]? = some (.cells X 42 (0, 0))) := (hk.block _ (heap_lt RX_7.out)).trans RX_7.out
  have RA_8 : Hid (V4.heap[qA]? = some (.cells A 42 (0, 0))) := (hk.block _ (heap_lt RA_7.out)).trans RA_7.out
  have Lm_8 : Hid (Lie V4 a n c f) := Lm_7.out.below (Nat.le_refl _) hk
  have LN_8 : Hid (Lie V4 aN n1 cN f1) := LN_7.out.below (Nat.le_refl _) hk
  have LX_8 : Hid (Lie V4 aX n1 cX f1) := LX_7.out.below (Nat.le_refl _) hk
  have LA_8 : Hid (Lie V4 aA n2 cA f2) := LA_7.out.below (Nat.le_refl _) hk
  have B_8 : Hid (Below w.heap.size w V4) := B_7.out.trans (hk.mono B_7.out.size)
  clear hk B_7 Rm_7 RN_7 RX_7 RA_7 Lm_7 LN_7 LX_7 LA_7
  have LB_8 : Hid (Lie V4 aB n2 cB f2) := hl
  clear hl
  go_upto_region 7 with (refine wpList_store_new rfl 42 _ _ rfl B _ _ rfl rfl IB.out SB.out OB.out ?_; intro U4 ha hk)
  have Rm_9 : Hid (U4.heap[w.heap.size]? = some (.cells T 42 (0, 0))) := (hk.block _ (heap_lt Rm_8.out)).trans Rm_8.out
  have RN_9 : Hid (U4.heap[qN]? = some (.cells N 42 (0, 0))) := (hk.block _ (heap_lt RN_8.out)).trans RN_8.out
  have RX_9 : Hid (U4.heap[qX]? = some (.cells X 42 (0, 0))) := (hk.block _ (heap_lt RX_8.out)).trans RX_8.out
  have RA_9 : Hid (U4.heap[qA]? = some (.cells A 42 (0, 0))) := (hk.block _ (heap_lt RA_8.out)).trans RA_8.out
  have Lm_9 : Hid (Lie U4 a n c f) := Lm_8.out.below (Nat.le_refl _) hk
  have LN_9 : Hid (Lie U4 aN n1 cN f1) := LN_8.out.below (Nat.le_refl _) hk
  have LX_9 : Hid (Lie U4 aX n1 cX f1) := LX_8.out.below (Nat.le_refl _) hk
  have LA_9 : Hid (Lie U4 aA n2 cA f2) := LA_8.out.below (Nat.le_refl _) hk
  have LB_9 : Hid (Lie U4 aB n2 cB f2) := LB_8.out.below (Nat.le_refl _) hk
  have B_9 : Hid (Below w.heap.size w U4) := B_8.out.trans (hk.mono B_8.out.size)
  clear hk B_8 Rm_8 RN_8 RX_8 RA_8 Lm_8 LN_8 LX_8 LA_8 LB_8
  have RB_9 : Hid (U4.heap[V4.heap.size]? = some (.cells B 42 (0, 0))) := ha
  clear ha
  generalize V4.heap.size = qB at *
  go_wp2_with (first | (refine wpList_load_row_g (by rfl) 42 _ rfl _ rfl 42 _ (0, 0) _ RA_9.out Try.underlying42 rfl IA.out ?_) | (refine wpList_load_row_g (by rfl) 42 _ rfl _ rfl 42 _ (0, 0) _ RB_9.out Try.underlying42 rfl IB.out ?_))
  have hs := zSame_yes P2 r2 f2 aA aB n2 cA cB few2 _ LA_9 LB_9
  rw [← hA.out, ← hB.out] at hs
  refine hs.mono ?_
  clear hs
  rintro e Y4 ⟨rfl, hk⟩
  have Rm_10 : Hid (Y4.heap[w.heap.size]? = some (.cells T 42 (0, 0))) := (hk.block _ (heap_lt Rm_9.out)).trans Rm_9.out
  have RN_10 : Hid (Y4.heap[qN]? = some (.cells N 42 (0, 0))) := (hk.block _ (heap_lt RN_9.out)).trans RN_9.out
  have RX_10 : Hid (Y4.heap[qX]? = some (.cells X 42 (0, 0))) := (hk.block _ (heap_lt RX_9.out)).trans RX_9.out
  have RA_10 : Hid (Y4.heap[qA]? = some (.cells A 42 (0, 0))) := (hk.block _ (heap_lt RA_9.out)).trans RA_9.out
  have RB_10 : Hid (Y4.heap[qB]? = some (.cells B 42 (0, 0))) := (hk.block _ (heap_lt RB_9.out)).trans RB_9.out
  have Lm_10 : Hid (Lie Y4 a n c f) := Lm_9.out.below (Nat.le_refl _) hk
  have LN_10 : Hid (Lie Y4 aN n1 cN f1) := LN_9.out.below (Nat.le_refl _) hk
  have LX_10 : Hid (Lie Y4 aX n1 cX f1) := LX_9.out.below (Nat.le_refl _) hk
  have LA_10 : Hid (Lie Y4 aA n2 cA f2) := LA_9.out.below (Nat.le_refl _) hk
  have LB_10 : Hid (Lie Y4 aB n2 cB f2) := LB_9.out.below (Nat.le_refl _) hk
  have B_10 : Hid (Below w.heap.size w Y4) := B_9.out.trans (hk.mono B_9.out.size)
  clear hk B_9 Rm_9 RN_9 RX_9 RA_9 RB_9 Lm_9 LN_9 LX_9 LA_9 LB_9
  go_wp2_with ((refine wpList_load_row_g (by rfl) 42 _ rfl _ rfl 42 _ (0, 0) _ Rm_10.out Try.underlying42 rfl Im.out ?_))
  refine (G1 _ Lm_10.out).mono ?_
  rintro e V5 ⟨⟨aC, cC, rfl, hl⟩, hk⟩
  obtain ⟨C, hC⟩ : ∃ X, Hid (X = mcs P3 r3 (.slice aC n3 cC)) := ⟨_, rfl⟩
  rw [← hC.out]
  have IC : Hid ((Try.prog.info? 42).map (·.size) = some C.size) := map_info hC.out
  have OC : Hid (C.all (·.oneCell') = true) := by show _ = _; rw [hC.out]; exact ones_mcs _ _ _ _ _
  have SC : Hid ((34 : Nat) = C.size) := by show _ = _; rw [hC.out]; rfl
  have Rm_11 : Hid (V5.heap[w.heap.size]? = some (.cells T 42 (0, 0))) := (hk.block _ (heap_lt Rm_10.out)).trans Rm_10.out
  have RN_11 : Hid (V5.heap[qN]? = some (.cells N 42 (0, 0))) := (hk.block _ (heap_lt RN_10.out)).trans RN_10.out
  have RX_11 : Hid (V5.heap[qX]? = some (.cells X 42 (0, 0))) := (hk.block _ (heap_lt RX_10.out)).trans RX_10.out
  have RA_11 : Hid (V5.heap[qA]? = some (.cells A 42 (0, 0))) := (hk.block _ (heap_lt RA_10.out)).trans RA_10.out
  have RB_11 : Hid (V5.heap[qB]? = some (.cells B 42 (0, 0))) := (hk.block _ (heap_lt RB_10.out)).trans RB_10.out
  have Lm_11 : Hid (Lie V5 a n c f) := Lm_10.out.below (Nat.le_refl _) hk
  have LN_11 : Hid (Lie V5 aN n1 cN f1) := LN_10.out.below (Nat.le_refl _) hk
  have LX_11 : Hid (Lie V5 aX n1 cX f1) := LX_10.out.below (Nat.le_refl _) hk
  have LA_11 : Hid (Lie V5 aA n2 cA f2) := LA_10.out.below (Nat.le_refl _) hk
  have LB_11 : Hid (Lie V5 aB n2 cB f2) := LB_10.out.below (Nat.le_refl _) hk
  have B_11 : Hid (Below w.heap.size w V5) := B_10.out.trans (hk.mono B_10.out.size)
  clear hk B_10 Rm_10 RN_10 RX_10 RA_10 RB_10 Lm_10 LN_10 LX_10 LA_10 LB_10
  have LC_11 : Hid (Lie V5 aC n3 cC f3) := hl
  clear hl
  go_upto_region 10 with (refine wpList_store_new rfl 42 _ _ rfl C _ _ rfl rfl IC.out SC.out OC.out ?_; intro U5 ha hk)
  have Rm_12 : Hid (U5.heap[w.heap.size]? = some (.cells T 42 (0, 0))) := (hk.block _ (heap_lt Rm_11.out)).trans Rm_11.out
  have RN_12 : Hid (U5.heap[qN]? = some (.cells N 42 (0, 0))) := (hk.block _ (heap_lt RN_11.out)).trans RN_11.out
  have RX_12 : Hid (U5.heap[qX]? = some (.cells X 42 (0, 0))) := (hk.block _ (heap_lt RX_11.out)).trans RX_11.out
  have RA_12 : Hid (U5.heap[qA]? = some (.cells A 42 (0, 0))) := (hk.block _ (heap_lt RA_11.out)).trans RA_11.out
  have RB_12 : Hid (U5.heap[qB]? = some (.cells B 42 (0, 0))) := (hk.block _ (heap_lt RB_11.out)).trans RB_11.out
  have Lm_12 : Hid (Lie U5 a n c f) := Lm_11.out.below (Nat.le_refl _) hk
  have LN_12 : Hid (Lie U5 aN n1 cN f1) := LN_11.out.below (Nat.le_refl _) hk
  have LX_12 : Hid (Lie U5 aX n1 cX f1) := LX_11.out.below (Nat.le_refl _) hk
  have LA_12 : Hid (Lie U5 aA n2 cA f2) := LA_11.out.below (Nat.le_refl _) hk
  have LB_12 : Hid (Lie U5 aB n2 cB f2) := LB_11.out.below (Nat.le_refl _) hk
  have LC_12 : Hid (Lie U5 aC n3 cC f3) := LC_11.out.below (Nat.le_refl _) hk
  have B_12 : Hid (Below w.heap.size w U5) := B_11.out.trans (hk.mono B_11.out.size)
  clear hk B_11 Rm_11 RN_11 RX_11 RA_11 RB_11 Lm_11 LN_11 LX_11 LA_11 LB_11 LC_11
  have RC_12 : Hid (U5.heap[V5.heap.size]? = some (.cells C 42 (0, 0))) := ha
  clear ha
  generalize V5.heap.size = qC at *
  go_wp2_with ((refine wpList_load_row_g (by rfl) 42 _ rfl _ rfl 42 _ (0, 0) _ Rm_12.out Try.underlying42 rfl Im.out ?_))
  refine (G2 _ Lm_12.out).mono ?_
  rintro e V6 ⟨⟨aD, cD, rfl, hl⟩, hk⟩
  obtain ⟨D, hD⟩ : ∃ X, Hid (X = mcs P3 r3 (.slice aD n3 cD)) := ⟨_, rfl⟩
  rw [← hD.out]
  have ID : Hid ((Try.prog.info? 42).map (·.size) = some D.size) := map_info hD.out
  have OD : Hid (D.all (·.oneCell') = true) := by show _ = _; rw [hD.out]; exact ones_mcs _ _ _ _ _
  have SD : Hid ((34 : Nat) = D.size) := by show _ = _; rw [hD.out]; rfl
  have Rm_13 : Hid (V6.heap[w.heap.size]? = some (.cells T 42 (0, 0))) := (hk.block _ (heap_lt Rm_12.out)).trans Rm_12.out
  have RN_13 : Hid (V6.heap[qN]? = some (.cells N 42 (0, 0))) := (hk.block _ (heap_lt RN_12.out)).trans RN_12.out
  have RX_13 : Hid (V6.heap[qX]? = some (.cells X 42 (0, 0))) := (hk.block _ (heap_lt RX_12.out)).trans RX_12.out
  have RA_13 : Hid (V6.heap[qA]? = some (.cells A 42 (0, 0))) := (hk.block _ (heap_lt RA_12.out)).trans RA_12.out
  have RB_13 : Hid (V6.heap[qB]? = some (.cells B 42 (0, 0))) := (hk.block _ (heap_lt RB_12.out)).trans RB_12.out
  have RC_13 : Hid (V6.heap[qC]? = some (.cells C 42 (0, 0))) := (hk.block _ (heap_lt RC_12.out)).trans RC_12.out
  have Lm_13 : Hid (Lie V6 a n c f) := Lm_12.out.below (Nat.le_refl _) hk
  have LN_13 : Hid (Lie V6 aN n1 cN f1) := LN_12.out.below (Nat.le_refl _) hk
  have LX_13 : Hid (Lie V6 aX n1 cX f1) := LX_12.out.below (Nat.le_refl _) hk
  have LA_13 : Hid (Lie V6 aA n2 cA f2) := LA_12.out.below (Nat.le_refl _) hk
  have LB_13 : Hid (Lie V6 aB n2 cB f2) := LB_12.out.below (Nat.le_refl _) hk
  have LC_13 : Hid (Lie V6 aC n3 cC f3) := LC_12.out.below (Nat.le_refl _) hk
  have B_13 : Hid (Below w.heap.size w V6) := B_12.out.trans (hk.mono B_12.out.size)
  clear hk B_12 Rm_12 RN_12 RX_12 RA_12 RB_12 RC_12 Lm_12 LN_12 LX_12 LA_12 LB_12 LC_12
  have LD_13 : Hid (Lie V6 aD n3 cD f3) := hl
  clear hl
  go_upto_region 11 with (refine wpList_store_new rfl 42 _ _ rfl D _ _ rfl rfl ID.out SD.out OD.out ?_; intro U6 ha hk)
  have Rm_14 : Hid (U6.heap[w.heap.size]? = some (.cells T 42 (0, 0))) := (hk.block _ (heap_lt Rm_13.out)).trans Rm_13.out
  have RN_14 : Hid (U6.heap[qN]? = some (.cells N 42 (0, 0))) := (hk.block _ (heap_lt RN_13.out)).trans RN_13.out
  have RX_14 : Hid (U6.heap[qX]? = some (.cells X 42 (0, 0))) := (hk.block _ (heap_lt RX_13.out)).trans RX_13.out
  have RA_14 : Hid (U6.heap[qA]? = some (.cells A 42 (0, 0))) := (hk.block _ (heap_lt RA_13.out)).trans RA_13.out
  have RB_14 : Hid (U6.heap[qB]? = some (.cells B 42 (0, 0))) := (hk.block _ (heap_lt RB_13.out)).trans RB_13.out
  have RC_14 : Hid (U6.heap[qC]? = some (.cells C 42 (0, 0))) := (hk.block _ (heap_lt RC_13.out)).trans RC_13.out
  have Lm_14 : Hid (Lie U6 a n c f) := Lm_13.out.below (Nat.le_refl _) hk
  have LN_14 : Hid (Lie U6 aN n1 cN f1) := LN_13.out.below (Nat.le_refl _) hk
  have LX_14 : Hid (Lie U6 aX n1 cX f1) := LX_13.out.below (Nat.le_refl _) hk
  have LA_14 : Hid (Lie U6 aA n2 cA f2) := LA_13.out.below (Nat.le_refl _) hk
  have LB_14 : Hid (Lie U6 aB n2 cB f2) := LB_13.out.below (Nat.le_refl _) hk
  have LC_14 : Hid (Lie U6 aC n3 cC f3) := LC_13.out.below (Nat.le_refl _) hk
  have LD_14 : Hid (Lie U6 aD n3 cD f3) := LD_13.out.below (Nat.le_refl _) hk
  have B_14 : Hid (Below w.heap.size w U6) := B_13.out.trans (hk.mono B_13.out.size)
  clear hk B_13 Rm_13 RN_13 RX_13 RA_13 RB_13 RC_13 Lm_13 LN_13 LX_13 LA_13 LB_13 LC_13 LD_13
  have RD_14 : Hid (U6.heap[V6.heap.size]? = some (.cells D 42 (0, 0))) := ha
  clear ha
  generalize V6.heap.size = qD at *
  go_wp2_with ((refine wpList_load_row_g (by rfl) 42 _ rfl _ rfl 42 _ (0, 0) _ Rm_14.out Try.underlying42 rfl Im.out ?_))
  refine (UA _ Lm_14.out).mono ?_
  rintro e V7 ⟨⟨aEa, cEa, rfl, hl⟩, hk⟩
  obtain ⟨Ea, hEa⟩ : ∃ X, Hid (X = mcs P4 r4 (.slice aEa n4 cEa)) := ⟨_, rfl⟩
  rw [← hEa.out]
  have IEa : Hid ((Try.prog.info? 42).map (·.size) = some Ea.size) := map_info hEa.out
  have OEa : Hid (Ea.all (·.oneCell') = true) := by show _ = _; rw [hEa.out]; exact ones_mcs _ _ _ _ _
  have SEa : Hid ((34 : Nat) = Ea.size) := by show _ = _; rw [hEa.out]; rfl
  have Rm_15 : Hid (V7.heap[w.heap.size]? = some (.cells T 42 (0, 0))) := (hk.block _ (heap_lt Rm_14.out)).trans Rm_14.out
  have RN_15 : Hid (V7.heap[qN]? = some (.cells N 42 (0, 0))) := (hk.block _ (heap_lt RN_14.out)).trans RN_14.out
  have RX_15 : Hid (V7.heap[qX]? = some (.cells X 42 (0, 0))) := (hk.block _ (heap_lt RX_14.out)).trans RX_14.out
  have RA_15 : Hid (V7.heap[qA]? = some (.cells A 42 (0, 0))) := (hk.block _ (heap_lt RA_14.out)).trans RA_14.out
  have RB_15 : Hid (V7.heap[qB]? = some (.cells B 42 (0, 0))) := (hk.block _ (heap_lt RB_14.out)).trans RB_14.out
  have RC_15 : Hid (V7.heap[qC]? = some (.cells C 42 (0, 0))) := (hk.block _ (heap_lt RC_14.out)).trans RC_14.out
  have RD_15 : Hid (V7.heap[qD]? = some (.cells D 42 (0, 0))) := (hk.block _ (heap_lt RD_14.out)).trans RD_14.out
  have Lm_15 : Hid (Lie V7 a n c f) := Lm_14.out.below (Nat.le_refl _) hk
  have LN_15 : Hid (Lie V7 aN n1 cN f1) := LN_14.out.below (Nat.le_refl _) hk
  have LX_15 : Hid (Lie V7 aX n1 cX f1) := LX_14.out.below (Nat.le_refl _) hk
  have LA_15 : Hid (Lie V7 aA n2 cA f2) := LA_14.out.below (Nat.le_refl _) hk
  have LB_15 : Hid (Lie V7 aB n2 cB f2) := LB_14.out.below (Nat.le_refl _) hk
  have LC_15 : Hid (Lie V7 aC n3 cC f3) := LC_14.out.below (Nat.le_refl _) hk
  have LD_15 : Hid (Lie V7 aD n3 cD f3) := LD_14.out.below (Nat.le_refl _) hk
  have B_15 : Hid (Below w.heap.size w V7) := B_14.out.trans (hk.mono B_14.out.size)
  clear hk B_14 Rm_14 RN_14 RX_14 RA_14 RB_14 RC_14 RD_14 Lm_14 LN_14 LX_14 LA_14 LB_14 LC_14 LD_14
  have LEa_15 : Hid (Lie V7 aEa n4 cEa f4) := hl
  clear hl
  go_upto_region 12 with (refine wpList_store_new rfl 42 _ _ rfl Ea _ _ rfl rfl IEa.out SEa.out OEa.out ?_; intro U7 ha hk)
  have Rm_16 : Hid (U7.heap[w.heap.size]? = some (.cells T 42 (0, 0))) := (hk.block _ (heap_lt Rm_15.out)).trans Rm_15.out
  have RN_16 : Hid (U7.heap[qN]? = some (.cells N 42 (0, 0))) := (hk.block _ (heap_lt RN_15.out)).trans RN_15.out
  have RX_16 : Hid (U7.heap[qX]? = some (.cells X 42 (0, 0))) := (hk.block _ (heap_lt RX_15.out)).trans RX_15.out
  have RA_16 : Hid (U7.heap[qA]? = some (.cells A 42 (0, 0))) := (hk.block _ (heap_lt RA_15.out)).trans RA_15.out
  have RB_16 : Hid (U7.heap[qB]? = some (.cells B 42 (0, 0))) := (hk.block _ (heap_lt RB_15.out)).trans RB_15.out
  have RC_16 : Hid (U7.heap[qC]? = some (.cells C 42 (0, 0))) := (hk.block _ (heap_lt RC_15.out)).trans RC_15.out
  have RD_16 : Hid (U7.heap[qD]? = some (.cells D 42 (0, 0))) := (hk.block _ (heap_lt RD_15.out)).trans RD_15.out
  have Lm_16 : Hid (Lie U7 a n c f) := Lm_15.out.below (Nat.le_refl _) hk
  have LN_16 : Hid (Lie U7 aN n1 cN f1) := LN_15.out.below (Nat.le_refl _) hk
  have LX_16 : Hid (Lie U7 aX n1 cX f1) := LX_15.out.below (Nat.le_refl _) hk
  have LA_16 : Hid (Lie U7 aA n2 cA f2) := LA_15.out.below (Nat.le_refl _) hk
  have LB_16 : Hid (Lie U7 aB n2 cB f2) := LB_15.out.below (Nat.le_refl _) hk
  have LC_16 : Hid (Lie U7 aC n3 cC f3) := LC_15.out.below (Nat.le_refl _) hk
  have LD_16 : Hid (Lie U7 aD n3 cD f3) := LD_15.out.below (Nat.le_refl _) hk
  have LEa_16 : Hid (Lie U7 aEa n4 cEa f4) := LEa_15.out.below (Nat.le_refl _) hk
  have B_16 : Hid (Below w.heap.size w U7) := B_15.out.trans (hk.mono B_15.out.size)
  clear hk B_15 Rm_15 RN_15 RX_15 RA_15 RB_15 RC_15 RD_15 Lm_15 LN_15 LX_15 LA_15 LB_15 LC_15 LD_15 LEa_15
  have REa_16 : Hid (U7.heap[V7.heap.size]? = some (.cells Ea 42 (0, 0))) := ha
  clear ha
  generalize V7.heap.size = qEa at *
  go_wp2_with ((refine wpList_load_row_g (by rfl) 42 _ rfl _ rfl 42 _ (0, 0) _ Rm_16.out Try.underlying42 rfl Im.out ?_))
  refine (UB _ Lm_16.out).mono ?_
  rintro e V8 ⟨⟨aEb, cEb, rfl, hl⟩, hk⟩
  obtain ⟨Eb, hEb⟩ : ∃ X, Hid (X = mcs P4 r4 (.slice aEb n4 cEb)) := ⟨_, rfl⟩
  rw [← hEb.out]
  have IEb : Hid ((Try.prog.info? 42).map (·.size) = some Eb.size) := map_info hEb.out
  have OEb : Hid (Eb.all (·.oneCell') = true) := by show _ = _; rw [hEb.out]; exact ones_mcs _ _ _ _ _
  have SEb : Hid ((34 : Nat) = Eb.size) := by show _ = _; rw [hEb.out]; rfl
  have Rm_17 : Hid (V8.heap[w.heap.size]? = some (.cells T 42 (0, 0))) := (hk.block _ (heap_lt Rm_16.out)).trans Rm_16.out
  have RN_17 : Hid (V8.heap[qN]? = some (.cells N 42 (0, 0))) := (hk.block _ (heap_lt RN_16.out)).trans RN_16.out
  have RX_17 : Hid (V8.heap[qX]? = some (.cells X 42 (0, 0))) := (hk.block _ (heap_lt RX_16.out)).trans RX_16.out
  have RA_17 : Hid (V8.heap[qA]? = some (.cells A 42 (0, 0))) := (hk.block _ (heap_lt RA_16.out)).trans RA_16.out
  have RB_17 : Hid (V8.heap[qB]? = some (.cells B 42 (0, 0))) := (hk.block _ (heap_lt RB_16.out)).trans RB_16.out
  have RC_17 : Hid (V8.heap[qC]? = some (.cells C 42 (0, 0))) := (hk.block _ (heap_lt RC_16.out)).trans RC_16.out
  have RD_17 : Hid (V8.heap[qD]? = some (.cells D 42 (0, 0))) := (hk.block _ (heap_lt RD_16.out)).trans RD_16.out
  have REa_17 : Hid (V8.heap[qEa]? = some (.cells Ea 42 (0, 0))) := (hk.block _ (heap_lt REa_16.out)).trans REa_16.out
  have Lm_17 : Hid (Lie V8 a n c f) := Lm_16.out.below (Nat.le_refl _) hk
  have LN_17 : Hid (Lie V8 aN n1 cN f1) := LN_16.out.below (Nat.le_refl _) hk
  have LX_17 : Hid (Lie V8 aX n1 cX f1) := LX_16.out.below (Nat.le_refl _) hk
  have LA_17 : Hid (Lie V8 aA n2 cA f2) := LA_16.out.below (Nat.le_refl _) hk
  have LB_17 : Hid (Lie V8 aB n2 cB f2) := LB_16.out.below (Nat.le_refl _) hk
  have LC_17 : Hid (Lie V8 aC n3 cC f3) := LC_16.out.below (Nat.le_refl _) hk
  have LD_17 : Hid (Lie V8 aD n3 cD f3) := LD_16.out.below (Nat.le_refl _) hk
  have LEa_17 : Hid (Lie V8 aEa n4 cEa f4) := LEa_16.out.below (Nat.le_refl _) hk
  have B_17 : Hid (Below w.heap.size w V8) := B_16.out.trans (hk.mono B_16.out.size)
  clear hk B_16 Rm_16 RN_16 RX_16 RA_16 RB_16 RC_16 RD_16 REa_16 Lm_16 LN_16 LX_16 LA_16 LB_16 LC_16 LD_16 LEa_16
  have LEb_17 : Hid (Lie V8 aEb n4 cEb f4) := hl
  clear hl
  go_upto_region 13 with (refine wpList_store_new rfl 42 _ _ rfl Eb _ _ rfl rfl IEb.out SEb.out OEb.out ?_; intro U8 ha hk)
  have Rm_18 : Hid (U8.heap[w.heap.size]? = some (.cells T 42 (0, 0))) := (hk.block _ (heap_lt Rm_17.out)).trans Rm_17.out
  have RN_18 : Hid (U8.heap[qN]? = some (.cells N 42 (0, 0))) := (hk.block _ (heap_lt RN_17.out)).trans RN_17.out
  have RX_18 : Hid (U8.heap[qX]? = some (.cells X 42 (0, 0))) := (hk.block _ (heap_lt RX_17.out)).trans RX_17.out
  have RA_18 : Hid (U8.heap[qA]? = some (.cells A 42 (0, 0))) := (hk.block _ (heap_lt RA_17.out)).trans RA_17.out
  have RB_18 : Hid (U8.heap[qB]? = some (.cells B 42 (0, 0))) := (hk.block _ (heap_lt RB_17.out)).trans RB_17.out
  have RC_18 : Hid (U8.heap[qC]? = some (.cells C 42 (0, 0))) := (hk.block _ (heap_lt RC_17.out)).trans RC_17.out
  have RD_18 : Hid (U8.heap[qD]? = some (.cells D 42 (0, 0))) := (hk.block _ (heap_lt RD_17.out)).trans RD_17.out
  have REa_18 : Hid (U8.heap[qEa]? = some (.cells Ea 42 (0, 0))) := (hk.block _ (heap_lt REa_17.out)).trans REa_17.out
  have Lm_18 : Hid (Lie U8 a n c f) := Lm_17.out.below (Nat.le_refl _) hk
  have LN_18 : Hid (Lie U8 aN n1 cN f1) := LN_17.out.below (Nat.le_refl _) hk
  have LX_18 : Hid (Lie U8 aX n1 cX f1) := LX_17.out.below (Nat.le_refl _) hk
  have LA_18 : Hid (Lie U8 aA n2 cA f2) := LA_17.out.below (Nat.le_refl _) hk
  have LB_18 : Hid (Lie U8 aB n2 cB f2) := LB_17.out.below (Nat.le_refl _) hk
  have LC_18 : Hid (Lie U8 aC n3 cC f3) := LC_17.out.below (Nat.le_refl _) hk
  have LD_18 : Hid (Lie U8 aD n3 cD f3) := LD_17.out.below (Nat.le_refl _) hk
  have LEa_18 : Hid (Lie U8 aEa n4 cEa f4) := LEa_17.out.below (Nat.le_refl _) hk
  have LEb_18 : Hid (Lie U8 aEb n4 cEb f4) := LEb_17.out.below (Nat.le_refl _) hk
  have B_18 : Hid (Below w.heap.size w U8) := B_17.out.trans (hk.mono B_17.out.size)
  clear hk B_17 Rm_17 RN_17 RX_17 RA_17 RB_17 RC_17 RD_17 REa_17 Lm_17 LN_17 LX_17 LA_17 LB_17 LC_17 LD_17 LEa_17 LEb_17
  have REb_18 : Hid (U8.heap[V8.heap.size]? = some (.cells Eb 42 (0, 0))) := ha
  clear ha
  generalize V8.heap.size = qEb at *
  go_wp2_with (first | (refine wpList_load_row_g (by rfl) 42 _ rfl _ rfl 42 _ (0, 0) _ RC_18.out Try.underlying42 rfl IC.out ?_) | (refine wpList_load_row_g (by rfl) 42 _ rfl _ rfl 42 _ (0, 0) _ RD_18.out Try.underlying42 rfl ID.out ?_))
  have hs := zSame_yes P3 r3 f3 aC aD n3 cC cD few3 _ LC_18 LD_18
  rw [← hC.out, ← hD.out] at hs
  refine hs.mono ?_
  clear hs
  rintro e Y5 ⟨rfl, hk⟩
  have Rm_19 : Hid (Y5.heap[w.heap.size]? = some (.cells T 42 (0, 0))) := (hk.block _ (heap_lt Rm_18.out)).trans Rm_18.out
  have RN_19 : Hid (Y5.heap[qN]? = some (.cells N 42 (0, 0))) := (hk.block _ (heap_lt RN_18.out)).trans RN_18.out
  have RX_19 : Hid (Y5.heap[qX]? = some (.cells X 42 (0, 0))) := (hk.block _ (heap_lt RX_18.out)).trans RX_18.out
  have RA_19 : Hid (Y5.heap[qA]? = some (.cells A 42 (0, 0))) := (hk.block _ (heap_lt RA_18.out)).trans RA_18.out
  have RB_19 : Hid (Y5.heap[qB]? = some (.cells B 42 (0, 0))) := (hk.block _ (heap_lt RB_18.out)).trans RB_18.out
  have RC_19 : Hid (Y5.heap[qC]? = some (.cells C 42 (0, 0))) := (hk.block _ (heap_lt RC_18.out)).trans RC_18.out
  have RD_19 : Hid (Y5.heap[qD]? = some (.cells D 42 (0, 0))) := (hk.block _ (heap_lt RD_18.out)).trans RD_18.out
  have REa_19 : Hid (Y5.heap[qEa]? = some (.cells Ea 42 (0, 0))) := (hk.block _ (heap_lt REa_18.out)).trans REa_18.out
  have REb_19 : Hid (Y5.heap[qEb]? = some (.cells Eb 42 (0, 0))) := (hk.block _ (heap_lt REb_18.out)).trans REb_18.out
  have Lm_19 : Hid (Lie Y5 a n c f) := Lm_18.out.below (Nat.le_refl _) hk
  have LN_19 : Hid (Lie Y5 aN n1 cN f1) := LN_18.out.below (Nat.le_refl _) hk
  have LX_19 : Hid (Lie Y5 aX n1 cX f1) := LX_18.out.below (Nat.le_refl _) hk
  have LA_19 : Hid (Lie Y5 aA n2 cA f2) := LA_18.out.below (Nat.le_refl _) hk
  have LB_19 : Hid (Lie Y5 aB n2 cB f2) := LB_18.out.below (Nat.le_refl _) hk
  have LC_19 : Hid (Lie Y5 aC n3 cC f3) := LC_18.out.below (Nat.le_refl _) hk
  have LD_19 : Hid (Lie Y5 aD n3 cD f3) := LD_18.out.below (Nat.le_refl _) hk
  have LEa_19 : Hid (Lie Y5 aEa n4 cEa f4) := LEa_18.out.below (Nat.le_refl _) hk
  have LEb_19 : Hid (Lie Y5 aEb n4 cEb f4) := LEb_18.out.below (Nat.le_refl _) hk
  have B_19 : Hid (Below w.heap.size w Y5) := B_18.out.trans (hk.mono B_18.out.size)
  clear hk B_18 Rm_18 RN_18 RX_18 RA_18 RB_18 RC_18 RD_18 REa_18 REb_18 Lm_18 LN_18 LX_18 LA_18 LB_18 LC_18 LD_18 LEa_18 LEb_18
  go_wp2_with (first | (refine wpList_load_row_g (by rfl) 42 _ rfl _ rfl 42 _ (0, 0) _ REa_19.out Try.underlying42 rfl IEa.out ?_) | (refine wpList_load_row_g (by rfl) 42 _ rfl _ rfl 42 _ (0, 0) _ REb_19.out Try.underlying42 rfl IEb.out ?_))
  have hs := zSame_yes P4 r4 f4 aEa aEb n4 cEa cEb few4 _ LEa_19 LEb_19
  rw [← hEa.out, ← hEb.out] at hs
  refine hs.mono ?_
  clear hs
  rintro e Y6 ⟨rfl, hk⟩
  have Rm_20 : Hid (Y6.heap[w.heap.size]? = some (.cells T 42 (0, 0))) := (hk.block _ (heap_lt Rm_19.out)).trans Rm_19.out
  have RN_20 : Hid (Y6.heap[qN]? = some (.cells N 42 (0, 0))) := (hk.block _ (heap_lt RN_19.out)).trans RN_19.out
  have RX_20 : Hid (Y6.heap[qX]? = some (.cells X 42 (0, 0))) := (hk.block _ (heap_lt RX_19.out)).trans RX_19.out
  have RA_20 : Hid (Y6.heap[qA]? = some (.cells A 42 (0, 0))) := (hk.block _ (heap_lt RA_19.out)).trans RA_19.out
  have RB_20 : Hid (Y6.heap[qB]? = some (.cells B 42 (0, 0))) := (hk.block _ (heap_lt RB_19.out)).trans RB_19.out
  have RC_20 : Hid (Y6.heap[qC]? = some (.cells C 42 (0, 0))) := (hk.block _ (heap_lt RC_19.out)).trans RC_19.out
  have RD_20 : Hid (Y6.heap[qD]? = some (.cells D 42 (0, 0))) := (hk.block _ (heap_lt RD_19.out)).trans RD_19.out
  have REa_20 : Hid (Y6.heap[qEa]? = some (.cells Ea 42 (0, 0))) := (hk.block _ (heap_lt REa_19.out)).trans REa_19.out
  have REb_20 : Hid (Y6.heap[qEb]? = some (.cells Eb 42 (0, 0))) := (hk.block _ (heap_lt REb_19.out)).trans REb_19.out
  have Lm_20 : Hid (Lie Y6 a n c f) := Lm_19.out.below (Nat.le_refl _) hk
  have LN_20 : Hid (Lie Y6 aN n1 cN f1) := LN_19.out.below (Nat.le_refl _) hk
  have LX_20 : Hid (Lie Y6 aX n1 cX f1) := LX_19.out.below (Nat.le_refl _) hk
  have LA_20 : Hid (Lie Y6 aA n2 cA f2) := LA_19.out.below (Nat.le_refl _) hk
  have LB_20 : Hid (Lie Y6 aB n2 cB f2) := LB_19.out.below (Nat.le_refl _) hk
  have LC_20 : Hid (Lie Y6 aC n3 cC f3) := LC_19.out.below (Nat.le_refl _) hk
  have LD_20 : Hid (Lie Y6 aD n3 cD f3) := LD_19.out.below (Nat.le_refl _) hk
  have LEa_20 : Hid (Lie Y6 aEa n4 cEa f4) := LEa_19.out.below (Nat.le_refl _) hk
  have LEb_20 : Hid (Lie Y6 aEb n4 cEb f4) := LEb_19.out.below (Nat.le_refl _) hk
  have B_20 : Hid (Below w.heap.size w Y6) := B_19.out.trans (hk.mono B_19.out.size)
  clear hk B_19 Rm_19 RN_19 RX_19 RA_19 RB_19 RC_19 RD_19 REa_19 REb_19 Lm_19 LN_19 LX_19 LA_19 LB_19 LC_19 LD_19 LEa_19 LEb_19
  go_wp2_with fail
  go_ret
  exact ⟨by simp, B_20.out⟩
end Go.Proofs.Ytpiohehijkpghab
