/- RenameUndoes, walked. -/
import Derived.Test.YtpiohehijkpghabRenX
namespace Go.Proofs.Ytpiohehijkpghab
open Go.RowKit Go.Maps
open Hy
set_option linter.unusedVariables false
set_option linter.unusedSimpArgs false
theorem new33 (w : World) : Calls Try.prog 21 #[.int .i64 33] w fun e w' => (∃ a' c', e = .returned (.tuple #[.agg (mcs 33 (rg 33) (.slice a' 1 c')), .int .i64 0]) ∧ Lie w' a' 1 c' (fun i => 32 + i)) ∧ Below w.heap.size w w' := nNew_yes 33 (by omega) (by omega) w
set_option maxRecDepth 20000 in
set_option maxHeartbeats 1000000 in
theorem undoes_yes (T : Array Value) (P : Int) (r f : Nat → Int) (a : Option Addr) (n c : Nat) (hT : Hid (Mp T P r a n c)) (k : Nat) (k0 : 1 ≤ k) (k1 : k < 32) (h0 : 0 < n) (hm : Hid (MayBe P n r f)) (w : World) (hL : Hid (Lie w a n c f)) :
    Calls Try.prog 7 #[.agg T, .int .i64 k] w fun e w' => e = .returned (.bool true) ∧ Below w.heap.size w w' := by
  have TK := fun w hL => nTake_yes T P r f a n c hT.out.is hm hT.out.p hT.out.f hT.out.rg k k0 k1 h0 w hL
  have Im : Hid ((Try.prog.info? 42).map (·.size) = some T.size) := map_info hT.out.is
  go_enter Try.func7, Try.ntmps7
  go_upto_region 1 with fail
  refine one_box (Φ := fun W => Code.wp _ _ _ _ W) ?_
  intro W0 HR' HB'
  have Rm_0 : Hid (W0.heap[w.heap.size]? = some (.cells T 42 (0, 0))) := HR'
  have B_0 : Hid (Below w.heap.size w W0) := HB'
  have Lm_0 : Hid (Lie W0 a n c f) := hL.out.below (Nat.le_refl _) HB'
  clear HR' HB'
  go_wp2_with (fail)
  refine (new33 _).mono ?_
  rintro e V1 ⟨⟨aN, cN, rfl, hl⟩, hk⟩
  obtain ⟨N, hN⟩ : ∃ X, Hid (X = mcs 33 (rg 33) (.slice aN 1 cN)) := ⟨_, rfl⟩
  rw [← hN.out]
  have IN : Hid ((Try.prog.info? 42).map (·.size) = some N.size) := map_info hN.out
  have ON : Hid (N.all (·.oneCell') = true) := by show _ = _; rw [hN.out]; exact ones_mcs _ _ _ _ _
  have SN : Hid ((34 : Nat) = N.size) := by show _ = _; rw [hN.out]; rfl
  have Rm_1 : Hid (V1.heap[w.heap.size]? = some (.cells T 42 (0, 0))) := (hk.block _ (heap_lt Rm_0.out)).trans Rm_0.out
  have Lm_1 : Hid (Lie V1 a n c f) := Lm_0.out.below (Nat.le_refl _) hk
  have B_1 : Hid (Below w.heap.size w V1) := B_0.out.trans (hk.mono B_0.out.size)
  clear hk B_0 Rm_0 Lm_0
  have LN_1 : Hid (Lie V1 aN 1 cN (fun i => 32 + i)) := hl
  clear hl
  go_upto_region 2 with (refine wpList_store_new rfl 42 _ _ rfl N _ _ rfl rfl IN.out SN.out ON.out ?_; intro U1 ha hk)
  have Rm_2 : Hid (U1.heap[w.heap.size]? = some (.cells T 42 (0, 0))) := (hk.block _ (heap_lt Rm_1.out)).trans Rm_1.out
  have Lm_2 : Hid (Lie U1 a n c f) := Lm_1.out.below (Nat.le_refl _) hk
  have LN_2 : Hid (Lie U1 aN 1 cN (fun i => 32 + i)) := LN_1.out.below (Nat.le_refl _) hk
  have B_2 : Hid (Below w.heap.size w U1) := B_1.out.trans (hk.mono B_1.out.size)
  clear hk B_1 Rm_1 Lm_1 LN_1
  have RN_2 : Hid (U1.heap[V1.heap.size]? = some (.cells N 42 (0, 0))) := ha
  clear ha
  generalize V1.heap.size = qN at *
  have kN : U1.cell? ⟨qN, 33, none⟩ = some (.slice aN 1 cN) := (cell_of_row _ _ _ _ _ _ RN_2.out).trans (by rw [hN.out]; rfl)
  go_wp2_with ((refine wpList_load_row_g (by rfl) 42 _ rfl _ rfl 42 _ (0, 0) _ Rm_2.out Try.underlying42 rfl Im.out ?_))
  refine (TK _ Lm_2.out).mono ?_
  rintro e V2 ⟨⟨aA, cA, rfl, hl⟩, hk⟩
  obtain ⟨A, hA⟩ : ∃ X, Hid (X = mcs P (up r k (f 0)) (.slice aA (n - 1) cA)) := ⟨_, rfl⟩
  rw [← hA.out]
  have IA : Hid ((Try.prog.info? 42).map (·.size) = some A.size) := map_info hA.out
  have OA : Hid (A.all (·.oneCell') = true) := by show _ = _; rw [hA.out]; exact ones_mcs _ _ _ _ _
  have SA : Hid ((34 : Nat) = A.size) := by show _ = _; rw [hA.out]; rfl
  have Rm_3 : Hid (V2.heap[w.heap.size]? = some (.cells T 42 (0, 0))) := (hk.block _ (heap_lt Rm_2.out)).trans Rm_2.out
  have RN_3 : Hid (V2.heap[qN]? = some (.cells N 42 (0, 0))) := (hk.block _ (heap_lt RN_2.out)).trans RN_2.out
  have Lm_3 : Hid (Lie V2 a n c f) := Lm_2.out.below (Nat.le_refl _) hk
  have LN_3 : Hid (Lie V2 aN 1 cN (fun i => 32 + i)) := LN_2.out.below (Nat.le_refl _) hk
  have B_3 : Hid (Below w.heap.size w V2) := B_2.out.trans (hk.mono B_2.out.size)
  clear hk B_2 Rm_2 RN_2 Lm_2 LN_2
  have LA_3 : Hid (Lie V2 aA (n - 1) cA (tl f)) := hl
  clear hl
  go_upto_region 5 with (refine wpList_store_new rfl 42 _ _ rfl A _ _ rfl rfl IA.out SA.out OA.out ?_; intro U2 ha hk)
  have Rm_4 : Hid (U2.heap[w.heap.size]? = some (.cells T 42 (0, 0))) := (hk.block _ (heap_lt Rm_3.out)).trans Rm_3.out
  have RN_4 : Hid (U2.heap[qN]? = some (.cells N 42 (0, 0))) := (hk.block _ (heap_lt RN_3.out)).trans RN_3.out
  have Lm_4 : Hid (Lie U2 a n c f) := Lm_3.out.below (Nat.le_refl _) hk
  have LN_4 : Hid (Lie U2 aN 1 cN (fun i => 32 + i)) := LN_3.out.below (Nat.le_refl _) hk
  have LA_4 : Hid (Lie U2 aA (n - 1) cA (tl f)) := LA_3.out.below (Nat.le_refl _) hk
  have B_4 : Hid (Below w.heap.size w U2) := B_3.out.trans (hk.mono B_3.out.size)
  clear hk B_3 Rm_3 RN_3 Lm_3 LN_3 LA_3
  have RA_4 : Hid (U2.heap[V2.heap.size]? = some (.cells A 42 (0, 0))) := ha
  clear ha
  generalize V2.heap.size = qA at *
  have UN : ∀ w, Lie w aA (n - 1) cA (tl f) → Calls Try.prog 30 #[.agg A, .int .i64 k, .int .i64 (r k)] w fun e w' => (∃ a' c', e = .returned (.tuple #[.agg (mcs P r (.slice a' n c')), .bool true]) ∧ Lie w' a' n c' f) ∧ Below w.heap.size w w' := by
    intro w hL'
    obtain ⟨n', rfl⟩ : ∃ n', n = n' + 1 := ⟨n - 1, by omega⟩
    have hU := nUndo_yes A P (up r k (f 0)) (tl f) aA n' cA hA.out (may_take hm.out k k1) (by rw [hA.out]; rfl) (by rw [hA.out]; rfl)
      (fun j hj => by
        show (Lit.int .i64 (up r k (f 0) j)).wf = true
        unfold up
        split
        · exact hL.out.wf 0 (by omega)
        · exact hT.out.rg j hj) k k0 k1 (r k) (idle_take hm.out k k1) w hL'
    rw [up_up, up_id, up_at, hd_tl] at hU
    exact hU
  go_wp2_with ((refine wpList_load_row_g (by rfl) 42 _ rfl _ rfl 42 _ (0, 0) _ RA_4.out Try.underlying42 rfl IA.out ?_))
  refine (UN _ LA_4.out).mono ?_
  rintro e V3 ⟨⟨aU, cU, rfl, hl⟩, hk⟩
  obtain ⟨U, hU⟩ : ∃ X, Hid (X = mcs P r (.slice aU n cU)) := ⟨_, rfl⟩
  rw [← hU.out]
  have IU : Hid ((Try.prog.info? 42).map (·.size) = some U.size) := map_info hU.out
  have OU : Hid (U.all (·.oneCell') = true) := by show _ = _; rw [hU.out]; exact ones_mcs _ _ _ _ _
  have SU : Hid ((34 : Nat) = U.size) := by show _ = _; rw [hU.out]; rfl
  have Rm_5 : Hid (V3.heap[w.heap.size]? = some (.cells T 42 (0, 0))) := (hk.block _ (heap_lt Rm_4.out)).trans Rm_4.out
  have RN_5 : Hid (V3.heap[qN]? = some (.cells N 42 (0, 0))) := (hk.block _ (heap_lt RN_4.out)).trans RN_4.out
  have RA_5 : Hid (V3.heap[qA]? = some (.cells A 42 (0, 0))) := (hk.block _ (heap_lt RA_4.out)).trans RA_4.out
  have Lm_5 : Hid (Lie V3 a n c f) := Lm_4.out.below (Nat.le_refl _) hk
  have LN_5 : Hid (Lie V3 aN 1 cN (fun i => 32 + i)) := LN_4.out.below (Nat.le_refl _) hk
  have LA_5 : Hid (Lie V3 aA (n - 1) cA (tl f)) := LA_4.out.below (Nat.le_refl _) hk
  have B_5 : Hid (Below w.heap.size w V3) := B_4.out.trans (hk.mono B_4.out.size)
  clear hk B_4 Rm_4 RN_4 RA_4 Lm_4 LN_4 LA_4
  have LU_5 : Hid (Lie V3 aU n cU f) := hl
  clear hl
  go_upto_region 8 with (refine wpList_store_new rfl 42 _ _ rfl U _ _ rfl rfl IU.out SU.out OU.out ?_; intro U3 ha hk)
  have Rm_6 : Hid (U3.heap[w.heap.size]? = some (.cells T 42 (0, 0))) := (hk.block _ (heap_lt Rm_5.out)).trans Rm_5.out
  have RN_6 : Hid (U3.heap[qN]? = some (.cells N 42 (0, 0))) := (hk.block _ (heap_lt RN_5.out)).trans RN_5.out
  have RA_6 : Hid (U3.heap[qA]? = some (.cells A 42 (0, 0))) := (hk.block _ (heap_lt RA_5.out)).trans RA_5.out
  have Lm_6 : Hid (Lie U3 a n c f) := Lm_5.out.below (Nat.le_refl _) hk
  have LN_6 : Hid (Lie U3 aN 1 cN (fun i => 32 + i)) := LN_5.out.below (Nat.le_refl _) hk
  have LA_6 : Hid (Lie U3 aA (n - 1) cA (tl f)) := LA_5.out.below (Nat.le_refl _) hk
  have LU_6 : Hid (Lie U3 aU n cU f) := LU_5.out.below (Nat.le_refl _) hk
  have B_6 : Hid (Below w.heap.size w U3) := B_5.out.trans (hk.mono B_5.out.size)
  clear hk B_5 Rm_5 RN_5 RA_5 Lm_5 LN_5 LA_5 LU_5
  have RU_6 : Hid (U3.heap[V3.heap.size]? = some (.cells U 42 (0, 0))) := ha
  clear ha
  generalize V3.heap.size = qU at *
  have few := hT.out.few
  go_wp2_with (first | (refine wpList_load_row_g (by rfl) 42 _ rfl _ rfl 42 _ (0, 0) _ RU_6.out Try.underlying42 rfl IU.out ?_) | (refine wpList_load_row_g (by rfl) 42 _ rfl _ rfl 42 _ (0, 0) _ Rm_6.out Try.underlying42 rfl Im.out ?_))
  have hs := zSame_yes P r f aU a n cU c few _ LU_6 Lm_6
  rw [← hU.out, ← hT.out.is] at hs
  refine hs.mono ?_
  clear hs
  rintro e Y1 ⟨rfl, hk⟩
  have Rm_7 : Hid (Y1.heap[w.heap.size]? = some (.cells T 42 (0, 0))) := (hk.block _ (heap_lt Rm_6.out)).trans Rm_6.out
  have RN_7 : Hid (Y1.heap[qN]? = some (.cells N 42 (0, 0))) := (hk.block _ (heap_lt RN_6.out)).trans RN_6.out
  have RA_7 : Hid (Y1.heap[qA]? = some (.cells A 42 (0, 0))) := (hk.block _ (heap_lt RA_6.out)).trans RA_6.out
  have RU_7 : Hid (Y1.heap[qU]? = some (.cells U 42 (0, 0))) := (hk.block _ (heap_lt RU_6.out)).trans RU_6.out
  have Lm_7 : Hid (Lie Y1 a n c f) := Lm_6.out.below (Nat.le_refl _) hk
  have LN_7 : Hid (Lie Y1 aN 1 cN (fun i => 32 + i)) := LN_6.out.below (Nat.le_refl _) hk
  have LA_7 : Hid (Lie Y1 aA (n - 1) cA (tl f)) := LA_6.out.below (Nat.le_refl _) hk
  have LU_7 : Hid (Lie Y1 aU n cU f) := LU_6.out.below (Nat.le_refl _) hk
  have B_7 : Hid (Below w.heap.size w Y1) := B_6.out.trans (hk.mono B_6.out.size)
  clear hk B_6 Rm_6 RN_6 RA_6 RU_6 Lm_6 LN_6 LA_6 LU_6
  go_wp2_with fail
  go_ret
  exact ⟨by simp, B_7.out⟩
theorem take_no {T : Array Value} {P : Int} {r f : Nat → Int} {a : Option Addr} {n c : Nat} (h : Mp T P r a n c) (k : Int) (hno : ¬ (MayBe P n r f ∧ (1 ≤ k ∧ k < 32) ∧ 0 < n)) (w : World) (hL : Lie w a n c f) :
    Calls Try.prog 26 #[.agg T, .int .i64 k] w fun e w' => (∃ a' c', e = .returned (.tuple #[.agg (mcs 0 (fun _ => 0) (.slice a' 0 c')), .int .i64 0, .int .i64 0, .bool false]) ∧ Lie w' a' 0 c' (fun _ => 0)) ∧ Below w.heap.size w w' := by
  have no : (Calls Try.prog 26 #[.agg T, .int .i64 k] w fun e w' => e = .returned (.tuple #[.agg zm, .int .i64 0, .int .i64 0, .bool false]) ∧ Below w.heap.size w w') := by
    by_cases hm : MayBe P n r f
    · by_cases hk : 1 ≤ k ∧ k < 32
      · have hz : ¬ 0 < n := fun hz => hno ⟨hm, hk, hz⟩
        obtain rfl : n = 0 := by omega
        exact nTake_no3 T P r f a c h.is h.p h.f h.rg k hm hk w hL
      · exact nTake_no2 T P r f a n c h.is h.p h.f h.rg k hm hk w hL
    · exact nTake_no1 T P r f a n c h.is h.p h.f h.rg k hm h.few w hL
  exact no.mono fun e w' h => ⟨⟨none, 0, h.1, lie_none _ _⟩, h.2⟩
set_option maxRecDepth 20000 in
set_option maxHeartbeats 1000000 in
theorem undoes_no1 (T : Array Value) (P : Int) (r f : Nat → Int) (a : Option Addr) (n c : Nat) (hT : Hid (Mp T P r a n c)) (k : Int) (hm : Hid (¬ MayBe P n r f)) (w : World) (hL : Hid (Lie w a n c f)) :
    Calls Try.prog 7 #[.agg T, .int .i64 k] w fun e w' => e = .returned (.bool true) ∧ Below w.heap.size w w' := by
  have TK := fun w hL => take_no (f := f) hT.out k (fun h => hm.out h.1) w hL
  have MB := fun w hL => nMay_any T P r f a n c false hT.out.is ⟨fun h => (nomatch h), fun h => absurd h hm.out⟩ hT.out.p hT.out.f hT.out.rg hT.out.few w hL
  have Im : Hid ((Try.prog.info? 42).map (·.size) = some T.size) := map_info hT.out.is
  go_enter Try.func7, Try.ntmps7
  go_upto_region 1 with fail
  refine one_box (Φ := fun W => Code.wp _ _ _ _ W) ?_
  intro W0 HR' HB'
  have Rm_0 : Hid (W0.heap[w.heap.size]? = some (.cells T 42 (0, 0))) := HR'
  have B_0 : Hid (Below w.heap.size w W0) := HB'
  have Lm_0 : Hid (Lie W0 a n c f) := hL.out.below (Nat.le_refl _) HB'
  clear HR' HB'
  go_wp2_with (fail)
  refine (new33 _).mono ?_
  rintro e V1 ⟨⟨aN, cN, rfl, hl⟩, hk⟩
  obtain ⟨N, hN⟩ : ∃ X, Hid (X = mcs 33 (rg 33) (.slice aN 1 cN)) := ⟨_, rfl⟩
  rw [← hN.out]
  have IN : Hid ((Try.prog.info? 42).map (·.size) = some N.size) := map_info hN.out
  have ON : Hid (N.all (·.oneCell') = true) := by show _ = _; rw [hN.out]; exact ones_mcs _ _ _ _ _
  have SN : Hid ((34 : Nat) = N.size) := by show _ = _; rw [hN.out]; rfl
  have Rm_1 : Hid (V1.heap[w.heap.size]? = some (.cells T 42 (0, 0))) := (hk.block _ (heap_lt Rm_0.out)).trans Rm_0.out
  have Lm_1 : Hid (Lie V1 a n c f) := Lm_0.out.below (Nat.le_refl _) hk
  have B_1 : Hid (Below w.heap.size w V1) := B_0.out.trans (hk.mono B_0.out.size)
  clear hk B_0 Rm_0 Lm_0
  have LN_1 : Hid (Lie V1 aN 1 cN (fun i => 32 + i)) := hl
  clear hl
  go_upto_region 2 with (refine wpList_store_new rfl 42 _ _ rfl N _ _ rfl rfl IN.out SN.out ON.out ?_; intro U1 ha hk)
  have Rm_2 : Hid (U1.heap[w.heap.size]? = some (.cells T 42 (0, 0))) := (hk.block _ (heap_lt Rm_1.out)).trans Rm_1.out
  have Lm_2 : Hid (Lie U1 a n c f) := Lm_1.out.below (Nat.le_refl _) hk
  have LN_2 : Hid (Lie U1 aN 1 cN (fun i => 32 + i)) := LN_1.out.below (Nat.le_refl _) hk
  have B_2 : Hid (Below w.heap.size w U1) := B_1.out.trans (hk.mono B_1.out.size)
  clear hk B_1 Rm_1 Lm_1 LN_1
  have RN_2 : Hid (U1.heap[V1.heap.size]? = some (.cells N 42 (0, 0))) := ha
  clear ha
  generalize V1.heap.size = qN at *
  have kN : U1.cell? ⟨qN, 33, none⟩ = some (.slice aN 1 cN) := (cell_of_row _ _ _ _ _ _ RN_2.out).trans (by rw [hN.out]; rfl)
  go_wp2_with ((refine wpList_load_row_g (by rfl) 42 _ rfl _ rfl 42 _ (0, 0) _ Rm_2.out Try.underlying42 rfl Im.out ?_))
  refine (TK _ Lm_2.out).mono ?_
  rintro e V2 ⟨⟨aA, cA, rfl, hl⟩, hk⟩
  obtain ⟨A, hA⟩ : ∃ X, Hid (X = mcs 0 (fun _ => 0) (.slice aA 0 cA)) := ⟨_, rfl⟩
  rw [← hA.out]
  have IA : Hid ((Try.prog.info? 42).map (·.size) = some A.size) := map_info hA.out
  have OA : Hid (A.all (·.oneCell') = true) := by show _ = _; rw [hA.out]; exact ones_mcs _ _ _ _ _
  have SA : Hid ((34 : Nat) = A.size) := by show _ = _; rw [hA.out]; rfl
  have Rm_3 : Hid (V2.heap[w.heap.size]? = some (.cells T 42 (0, 0))) := (hk.block _ (heap_lt Rm_2.out)).trans Rm_2.out
  have RN_3 : Hid (V2.heap[qN]? = some (.cells N 42 (0, 0))) := (hk.block _ (heap_lt RN_2.out)).trans RN_2.out
  have Lm_3 : Hid (Lie V2 a n c f) := Lm_2.out.below (Nat.le_refl _) hk
  have LN_3 : Hid (Lie V2 aN 1 cN (fun i => 32 + i)) := LN_2.out.below (Nat.le_refl _) hk
  have B_3 : Hid (Below w.heap.size w V2) := B_2.out.trans (hk.mono B_2.out.size)
  clear hk B_2 Rm_2 RN_2 Lm_2 LN_2
  have LA_3 : Hid (Lie V2 aA 0 cA (fun _ => 0)) := hl
  clear hl
  go_upto_region 5 with (refine wpList_store_new rfl 42 _ _ rfl A _ _ rfl rfl IA.out SA.out OA.out ?_; intro U2 ha hk)
  have Rm_4 : Hid (U2.heap[w.heap.size]? = some (.cells T 42 (0, 0))) := (hk.block _ (heap_lt Rm_3.out)).trans Rm_3.out
  have RN_4 : Hid (U2.heap[qN]? = some (.cells N 42 (0, 0))) := (hk.block _ (heap_lt RN_3.out)).trans RN_3.out
  have Lm_4 : Hid (Lie U2 a n c f) := Lm_3.out.below (Nat.le_refl _) hk
  have LN_4 : Hid (Lie U2 aN 1 cN (fun i => 32 + i)) := LN_3.out.below (Nat.le_refl _) hk
  have LA_4 : Hid (Lie U2 aA 0 cA (fun _ => 0)) := LA_3.out.below (Nat.le_refl _) hk
  have B_4 : Hid (Below w.heap.size w U2) := B_3.out.trans (hk.mono B_3.out.size)
  clear hk B_3 Rm_3 RN_3 Lm_3 LN_3 LA_3
  have RA_4 : Hid (U2.heap[V2.heap.size]? = some (.cells A 42 (0, 0))) := ha
  clear ha
  generalize V2.heap.size = qA at *
  go_wp2_with ((refine wpList_load_row_g (by rfl) 42 _ rfl _ rfl 42 _ (0, 0) _ Rm_4.out Try.underlying42 rfl Im.out ?_))
  refine (MB _ Lm_4.out).mono ?_
  rintro e Y1 ⟨rfl, hk⟩
  have Rm_5 : Hid (Y1.heap[w.heap.size]? = some (.cells T 42 (0, 0))) := (hk.block _ (heap_lt Rm_4.out)).trans Rm_4.out
  have RN_5 : Hid (Y1.heap[qN]? = some (.cells N 42 (0, 0))) := (hk.block _ (heap_lt RN_4.out)).trans RN_4.out
  have RA_5 : Hid (Y1.heap[qA]? = some (.cells A 42 (0, 0))) := (hk.block _ (heap_lt RA_4.out)).trans RA_4.out
  have Lm_5 : Hid (Lie Y1 a n c f) := Lm_4.out.below (Nat.le_refl _) hk
  have LN_5 : Hid (Lie Y1 aN 1 cN (fun i => 32 + i)) := LN_4.out.below (Nat.le_refl _) hk
  have LA_5 : Hid (Lie Y1 aA 0 cA (fun _ => 0)) := LA_4.out.below (Nat.le_refl _) hk
  have B_5 : Hid (Below w.heap.size w Y1) := B_4.out.trans (hk.mono B_4.out.size)
  clear hk B_4 Rm_4 RN_4 RA_4 Lm_4 LN_4 LA_4
  have k33 : Y1.cell? ⟨w.heap.size, 33, none⟩ = some (.slice a n c) := (cell_of_row _ _ _ _ _ _ Rm_5.out).trans hT.out.f
  go_wp2_with (refine wpList_skip (by rfl) ?_)
  go_ret
  exact ⟨by first | rfl | simp, B_5.out⟩
set_option maxRecDepth 20000 in
set_option maxHeartbeats 1000000 in
theorem undoes_no2 (T : Array Value) (P : Int) (r f : Nat → Int) (a : Option Addr) (c : Nat) (hT : Hid (Mp T P r a 0 c)) (k : Int) (hm : Hid (MayBe P 0 r f)) (w : World) (hL : Hid (Lie w a 0 c f)) :
    Calls Try.prog 7 #[.agg T, .int .i64 k] w fun e w' => e = .returned (.bool true) ∧ Below w.heap.size w w' := by
  have TK := fun w hL => take_no (f := f) hT.out k (fun h => absurd h.2.2 (by omega)) w hL
  have MB := fun w hL => nMay_any T P r f a 0 c true hT.out.is ⟨fun _ => hm.out, fun _ => rfl⟩ hT.out.p hT.out.f hT.out.rg hT.out.few w hL
  have Im : Hid ((Try.prog.info? 42).map (·.size) = some T.size) := map_info hT.out.is
  go_enter Try.func7, Try.ntmps7
  go_upto_region 1 with fail
  refine one_box (Φ := fun W => Code.wp _ _ _ _ W) ?_
  intro W0 HR' HB'
  have Rm_0 : Hid (W0.heap[w.heap.size]? = some (.cells T 42 (0, 0))) := HR'
  have B_0 : Hid (Below w.heap.size w W0) := HB'
  have Lm_0 : Hid (Lie W0 a 0 c f) := hL.out.below (Nat.le_refl _) HB'
  clear HR' HB'
  go_wp2_with (fail)
  refine (new33 _).mono ?_
  rintro e V1 ⟨⟨aN, cN, rfl, hl⟩, hk⟩
  obtain ⟨N, hN⟩ : ∃ X, Hid (X = mcs 33 (rg 33) (.slice aN 1 cN)) := ⟨_, rfl⟩
  rw [← hN.out]
  have IN : Hid ((Try.prog.info? 42).map (·.size) = some N.size) := map_info hN.out
  have ON : Hid (N.all (·.oneCell') = true) := by show _ = _; rw [hN.out]; exact ones_mcs _ _ _ _ _
  have SN : Hid ((34 : Nat) = N.size) := by show _ = _; rw [hN.out]; rfl
  have Rm_1 : Hid (V1.heap[w.heap.size]? = some (.cells T 42 (0, 0))) := (hk.block _ (heap_lt Rm_0.out)).trans Rm_0.out
  have Lm_1 : Hid (Lie V1 a 0 c f) := Lm_0.out.below (Nat.le_refl _) hk
  have B_1 : Hid (Below w.heap.size w V1) := B_0.out.trans (hk.mono B_0.out.size)
  clear hk B_0 Rm_0 Lm_0
  have LN_1 : Hid (Lie V1 aN 1 cN (fun i => 32 + i)) := hl
  clear hl
  go_upto_region 2 with (refine wpList_store_new rfl 42 _ _ rfl N _ _ rfl rfl IN.out SN.out ON.out ?_; intro U1 ha hk)
  have Rm_2 : Hid (U1.heap[w.heap.size]? = some (.cells T 42 (0, 0))) := (hk.block _ (heap_lt Rm_1.out)).trans Rm_1.out
  have Lm_2 : Hid (Lie U1 a 0 c f) := Lm_1.out.below (Nat.le_refl _) hk
  have LN_2 : Hid (Lie U1 aN 1 cN (fun i => 32 + i)) := LN_1.out.below (Nat.le_refl _) hk
  have B_2 : Hid (Below w.heap.size w U1) := B_1.out.trans (hk.mono B_1.out.size)
  clear hk B_1 Rm_1 Lm_1 LN_1
  have RN_2 : Hid (U1.heap[V1.heap.size]? = some (.cells N 42 (0, 0))) := ha
  clear ha
  generalize V1.heap.size = qN at *
  have kN : U1.cell? ⟨qN, 33, none⟩ = some (.slice aN 1 cN) := (cell_of_row _ _ _ _ _ _ RN_2.out).trans (by rw [hN.out]; rfl)
  go_wp2_with ((refine wpList_load_row_g (by rfl) 42 _ rfl _ rfl 42 _ (0, 0) _ Rm_2.out Try.underlying42 rfl Im.out ?_))
  refine (TK _ Lm_2.out).mono ?_
  rintro e V2 ⟨⟨aA, cA, rfl, hl⟩, hk⟩
  obtain ⟨A, hA⟩ : ∃ X, Hid (X = mcs 0 (fun _ => 0) (.slice aA 0 cA)) := ⟨_, rfl⟩
  rw [← hA.out]
  have IA : Hid ((Try.prog.info? 42).map (·.size) = some A.size) := map_info hA.out
  have OA : Hid (A.all (·.oneCell') = true) := by show _ = _; rw [hA.out]; exact ones_mcs _ _ _ _ _
  have SA : Hid ((34 : Nat) = A.size) := by show _ = _; rw [hA.out]; rfl
  have Rm_3 : Hid (V2.heap[w.heap.size]? = some (.cells T 42 (0, 0))) := (hk.block _ (heap_lt Rm_2.out)).trans Rm_2.out
  have RN_3 : Hid (V2.heap[qN]? = some (.cells N 42 (0, 0))) := (hk.block _ (heap_lt RN_2.out)).trans RN_2.out
  have Lm_3 : Hid (Lie V2 a 0 c f) := Lm_2.out.below (Nat.le_refl _) hk
  have LN_3 : Hid (Lie V2 aN 1 cN (fun i => 32 + i)) := LN_2.out.below (Nat.le_refl _) hk
  have B_3 : Hid (Below w.heap.size w V2) := B_2.out.trans (hk.mono B_2.out.size)
  clear hk B_2 Rm_2 RN_2 Lm_2 LN_2
  have LA_3 : Hid (Lie V2 aA 0 cA (fun _ => 0)) := hl
  clear hl
  go_upto_region 5 with (refine wpList_store_new rfl 42 _ _ rfl A _ _ rfl rfl IA.out SA.out OA.out ?_; intro U2 ha hk)
  have Rm_4 : Hid (U2.heap[w.heap.size]? = some (.cells T 42 (0, 0))) := (hk.block _ (heap_lt Rm_3.out)).trans Rm_3.out
  have RN_4 : Hid (U2.heap[qN]? = some (.cells N 42 (0, 0))) := (hk.block _ (heap_lt RN_3.out)).trans RN_3.out
  have Lm_4 : Hid (Lie U2 a 0 c f) := Lm_3.out.below (Nat.le_refl _) hk
  have LN_4 : Hid (Lie U2 aN 1 cN (fun i => 32 + i)) := LN_3.out.below (Nat.le_refl _) hk
  have LA_4 : Hid (Lie U2 aA 0 cA (fun _ => 0)) := LA_3.out.below (Nat.le_refl _) hk
  have B_4 : Hid (Below w.heap.size w U2) := B_3.out.trans (hk.mono B_3.out.size)
  clear hk B_3 Rm_3 RN_3 Lm_3 LN_3 LA_3
  have RA_4 : Hid (U2.heap[V2.heap.size]? = some (.cells A 42 (0, 0))) := ha
  clear ha
  generalize V2.heap.size = qA at *
  go_wp2_with ((refine wpList_load_row_g (by rfl) 42 _ rfl _ rfl 42 _ (0, 0) _ Rm_4.out Try.underlying42 rfl Im.out ?_))
  refine (MB _ Lm_4.out).mono ?_
  rintro e Y1 ⟨rfl, hk⟩
  have Rm_5 : Hid (Y1.heap[w.heap.size]? = some (.cells T 42 (0, 0))) := (hk.block _ (heap_lt Rm_4.out)).trans Rm_4.out
  have RN_5 : Hid (Y1.heap[qN]? = some (.cells N 42 (0, 0))) := (hk.block _ (heap_lt RN_4.out)).trans RN_4.out
  have RA_5 : Hid (Y1.heap[qA]? = some (.cells A 42 (0, 0))) := (hk.block _ (heap_lt RA_4.out)).trans RA_4.out
  have Lm_5 : Hid (Lie Y1 a 0 c f) := Lm_4.out.below (Nat.le_refl _) hk
  have LN_5 : Hid (Lie Y1 aN 1 cN (fun i => 32 + i)) := LN_4.out.below (Nat.le_refl _) hk
  have LA_5 : Hid (Lie Y1 aA 0 cA (fun _ => 0)) := LA_4.out.below (Nat.le_refl _) hk
  have B_5 : Hid (Below w.heap.size w Y1) := B_4.out.trans (hk.mono B_4.out.size)
  clear hk B_4 Rm_4 RN_4 RA_4 Lm_4 LN_4 LA_4
  have k33 : Y1.cell? ⟨w.heap.size, 33, none⟩ = some (.slice a 0 c) := (cell_of_row _ _ _ _ _ _ Rm_5.out).trans hT.out.f
  go_wp2_with (refine wpList_skip (by rfl) ?_)
  go_ret
  exact ⟨by first | rfl | simp, B_5.out⟩
set_option maxRecDepth 20000 in
set_option maxHeartbeats 1000000 in
theorem undoes_no3 (T : Array Value) (P : Int) (r f : Nat → Int) (a : Option Addr) (n c : Nat) (hT : Hid (Mp T P r a n c)) (k : Int) (hm : Hid (MayBe P n r f)) (hz : 0 < n) (hk1 : k < 1) (w : World) (hL : Hid (Lie w a n c f)) :
    Calls Try.prog 7 #[.agg T, .int .i64 k] w fun e w' => e = .returned (.bool true) ∧ Below w.heap.size w w' := by
  have TK := fun w hL => take_no (f := f) hT.out k (fun h => absurd h.2.1.1 (by omega)) w hL
  have MB := fun w hL => nMay_any T P r f a n c true hT.out.is ⟨fun _ => hm.out, fun _ => rfl⟩ hT.out.p hT.out.f hT.out.rg hT.out.few w hL
  have z1 : ((n : Int) == 0) = false := by simp; omega
  have Im : Hid ((Try.prog.info? 42).map (·.size) = some T.size) := map_info hT.out.is
  go_enter Try.func7, Try.ntmps7
  go_upto_region 1 with fail
  refine one_box (Φ := fun W => Code.wp _ _ _ _ W) ?_
  intro W0 HR' HB'
  have Rm_0 : Hid (W0.heap[w.heap.size]? = some (.cells T 42 (0, 0))) := HR'
  have B_0 : Hid (Below w.heap.size w W0) := HB'
  have Lm_0 : Hid (Lie W0 a n c f) := hL.out.below (Nat.le_refl _) HB'
  clear HR' HB'
  go_wp2_with (fail)
  refine (new33 _).mono ?_
  rintro e V1 ⟨⟨aN, cN, rfl, hl⟩, hk⟩
  obtain ⟨N, hN⟩ : ∃ X, Hid (X = mcs 33 (rg 33) (.slice aN 1 cN)) := ⟨_, rfl⟩
  rw [← hN.out]
  have IN : Hid ((Try.prog.info? 42).map (·.size) = some N.size) := map_info hN.out
  have ON : Hid (N.all (·.oneCell') = true) := by show _ = _; rw [hN.out]; exact ones_mcs _ _ _ _ _
  have SN : Hid ((34 : Nat) = N.size) := by show _ = _; rw [hN.out]; rfl
  have Rm_1 : Hid (V1.heap[w.heap.size]? = some (.cells T 42 (0, 0))) := (hk.block _ (heap_lt Rm_0.out)).trans Rm_0.out
  have Lm_1 : Hid (Lie V1 a n c f) := Lm_0.out.below (Nat.le_refl _) hk
  have B_1 : Hid (Below w.heap.size w V1) := B_0.out.trans (hk.mono B_0.out.size)
  clear hk B_0 Rm_0 Lm_0
  have LN_1 : Hid (Lie V1 aN 1 cN (fun i => 32 + i)) := hl
  clear hl
  go_upto_region 2 with (refine wpList_store_new rfl 42 _ _ rfl N _ _ rfl rfl IN.out SN.out ON.out ?_; intro U1 ha hk)
  have Rm_2 : Hid (U1.heap[w.heap.size]? = some (.cells T 42 (0, 0))) := (hk.block _ (heap_lt Rm_1.out)).trans Rm_1.out
  have Lm_2 : Hid (Lie U1 a n c f) := Lm_1.out.below (Nat.le_refl _) hk
  have LN_2 : Hid (Lie U1 aN 1 cN (fun i => 32 + i)) := LN_1.out.below (Nat.le_refl _) hk
  have B_2 : Hid (Below w.heap.size w U1) := B_1.out.trans (hk.mono B_1.out.size)
  clear hk B_1 Rm_1 Lm_1 LN_1
  have RN_2 : Hid (U1.heap[V1.heap.size]? = some (.cells N 42 (0, 0))) := ha
  clear ha
  generalize V1.heap.size = qN at *
  have kN : U1.cell? ⟨qN, 33, none⟩ = some (.slice aN 1 cN) := (cell_of_row _ _ _ _ _ _ RN_2.out).trans (by rw [hN.out]; rfl)
  go_wp2_with ((refine wpList_load_row_g (by rfl) 42 _ rfl _ rfl 42 _ (0, 0) _ Rm_2.out Try.underlying42 rfl Im.out ?_))
  refine (TK _ Lm_2.out).mono ?_
  rintro e V2 ⟨⟨aA, cA, rfl, hl⟩, hk⟩
  obtain ⟨A, hA⟩ : ∃ X, Hid (X = mcs 0 (fun _ => 0) (.slice aA 0 cA)) := ⟨_, rfl⟩
  rw [← hA.out]
  have IA : Hid ((Try.prog.info? 42).map (·.size) = some A.size) := map_info hA.out
  have OA : Hid (A.all (·.oneCell') = true) := by show _ = _; rw [hA.out]; exact ones_mcs _ _ _ _ _
  have SA : Hid ((34 : Nat) = A.size) := by show _ = _; rw [hA.out]; rfl
  have Rm_3 : Hid (V2.heap[w.heap.size]? = some (.cells T 42 (0, 0))) := (hk.block _ (heap_lt Rm_2.out)).trans Rm_2.out
  have RN_3 : Hid (V2.heap[qN]? = some (.cells N 42 (0, 0))) := (hk.block _ (heap_lt RN_2.out)).trans RN_2.out
  have Lm_3 : Hid (Lie V2 a n c f) := Lm_2.out.below (Nat.le_refl _) hk
  have LN_3 : Hid (Lie V2 aN 1 cN (fun i => 32 + i)) := LN_2.out.below (Nat.le_refl _) hk
  have B_3 : Hid (Below w.heap.size w V2) := B_2.out.trans (hk.mono B_2.out.size)
  clear hk B_2 Rm_2 RN_2 Lm_2 LN_2
  have LA_3 : Hid (Lie V2 aA 0 cA (fun _ => 0)) := hl
  clear hl
  go_upto_region 5 with (refine wpList_store_new rfl 42 _ _ rfl A _ _ rfl rfl IA.out SA.out OA.out ?_; intro U2 ha hk)
  have Rm_4 : Hid (U2.heap[w.heap.size]? = some (.cells T 42 (0, 0))) := (hk.block _ (heap_lt Rm_3.out)).trans Rm_3.out
  have RN_4 : Hid (U2.heap[qN]? = some (.cells N 42 (0, 0))) := (hk.block _ (heap_lt RN_3.out)).trans RN_3.out
  have Lm_4 : Hid (Lie U2 a n c f) := Lm_3.out.below (Nat.le_refl _) hk
  have LN_4 : Hid (Lie U2 aN 1 cN (fun i => 32 + i)) := LN_3.out.below (Nat.le_refl _) hk
  have LA_4 : Hid (Lie U2 aA 0 cA (fun _ => 0)) := LA_3.out.below (Nat.le_refl _) hk
  have B_4 : Hid (Below w.heap.size w U2) := B_3.out.trans (hk.mono B_3.out.size)
  clear hk B_3 Rm_3 RN_3 Lm_3 LN_3 LA_3
  have RA_4 : Hid (U2.heap[V2.heap.size]? = some (.cells A 42 (0, 0))) := ha
  clear ha
  generalize V2.heap.size = qA at *
  go_wp2_with ((refine wpList_load_row_g (by rfl) 42 _ rfl _ rfl 42 _ (0, 0) _ Rm_4.out Try.underlying42 rfl Im.out ?_))
  refine (MB _ Lm_4.out).mono ?_
  rintro e Y1 ⟨rfl, hk⟩
  have Rm_5 : Hid (Y1.heap[w.heap.size]? = some (.cells T 42 (0, 0))) := (hk.block _ (heap_lt Rm_4.out)).trans Rm_4.out
  have RN_5 : Hid (Y1.heap[qN]? = some (.cells N 42 (0, 0))) := (hk.block _ (heap_lt RN_4.out)).trans RN_4.out
  have RA_5 : Hid (Y1.heap[qA]? = some (.cells A 42 (0, 0))) := (hk.block _ (heap_lt RA_4.out)).trans RA_4.out
  have Lm_5 : Hid (Lie Y1 a n c f) := Lm_4.out.below (Nat.le_refl _) hk
  have LN_5 : Hid (Lie Y1 aN 1 cN (fun i => 32 + i)) := LN_4.out.below (Nat.le_refl _) hk
  have LA_5 : Hid (Lie Y1 aA 0 cA (fun _ => 0)) := LA_4.out.below (Nat.le_refl _) hk
  have B_5 : Hid (Below w.heap.size w Y1) := B_4.out.trans (hk.mono B_4.out.size)
  clear hk B_4 Rm_4 RN_4 RA_4 Lm_4 LN_4 LA_4
  have k33 : Y1.cell? ⟨w.heap.size, 33, none⟩ = some (.slice a n c) := (cell_of_row _ _ _ _ _ _ Rm_5.out).trans hT.out.f
  go_wp2_with (refine wpList_skip (by rfl) ?_)
  go_ret
  exact ⟨by first | rfl | simp, B_5.out⟩
set_option maxRecDepth 20000 in
set_option maxHeartbeats 1000000 in
theorem undoes_no4 (T : Array Value) (P : Int) (r f : Nat → Int) (a : Option Addr) (n c : Nat) (hT : Hid (Mp T P r a n c)) (k : Int) (hm : Hid (MayBe P n r f)) (hz : 0 < n) (hk1 : ¬ k < 1) (hk2 : 31 < k) (w : World) (hL : Hid (Lie w a n c f)) :
    Calls Try.prog 7 #[.agg T, .int .i64 k] w fun e w' => e = .returned (.bool true) ∧ Below w.heap.size w w' := by
  have TK := fun w hL => take_no (f := f) hT.out k (fun h => absurd h.2.1.2 (by omega)) w hL
  have MB := fun w hL => nMay_any T P r f a n c true hT.out.is ⟨fun _ => hm.out, fun _ => rfl⟩ hT.out.p hT.out.f hT.out.rg hT.out.few w hL
  have z1 : ((n : Int) == 0) = false := by simp; omega
  have Im : Hid ((Try.prog.info? 42).map (·.size) = some T.size) := map_info hT.out.is
  go_enter Try.func7, Try.ntmps7
  go_upto_region 1 with fail
  refine one_box (Φ := fun W => Code.wp _ _ _ _ W) ?_
  intro W0 HR' HB'
  have Rm_0 : Hid (W0.heap[w.heap.size]? = some (.cells T 42 (0, 0))) := HR'
  have B_0 : Hid (Below w.heap.size w W0) := HB'
  have Lm_0 : Hid (Lie W0 a n c f) := hL.out.below (Nat.le_refl _) HB'
  clear HR' HB'
  go_wp2_with (fail)
  refine (new33 _).mono ?_
  rintro e V1 ⟨⟨aN, cN, rfl, hl⟩, hk⟩
  obtain ⟨N, hN⟩ : ∃ X, Hid (X = mcs 33 (rg 33) (.slice aN 1 cN)) := ⟨_, rfl⟩
  rw [← hN.out]
  have IN : Hid ((Try.prog.info? 42).map (·.size) = some N.size) := map_info hN.out
  have ON : Hid (N.all (·.oneCell') = true) := by show _ = _; rw [hN.out]; exact ones_mcs _ _ _ _ _
  have SN : Hid ((34 : Nat) = N.size) := by show _ = _; rw [hN.out]; rfl
  have Rm_1 : Hid (V1.heap[w.heap.size]? = some (.cells T 42 (0, 0))) := (hk.block _ (heap_lt Rm_0.out)).trans Rm_0.out
  have Lm_1 : Hid (Lie V1 a n c f) := Lm_0.out.below (Nat.le_refl _) hk
  have B_1 : Hid (Below w.heap.size w V1) := B_0.out.trans (hk.mono B_0.out.size)
  clear hk B_0 Rm_0 Lm_0
  have LN_1 : Hid (Lie V1 aN 1 cN (fun i => 32 + i)) := hl
  clear hl
  go_upto_region 2 with (refine wpList_store_new rfl 42 _ _ rfl N _ _ rfl rfl IN.out SN.out ON.out ?_; intro U1 ha hk)
  have Rm_2 : Hid (U1.heap[w.heap.size]? = some (.cells T 42 (0, 0))) := (hk.block _ (heap_lt Rm_1.out)).trans Rm_1.out
  have Lm_2 : Hid (Lie U1 a n c f) := Lm_1.out.below (Nat.le_refl _) hk
  have LN_2 : Hid (Lie U1 aN 1 cN (fun i => 32 + i)) := LN_1.out.below (Nat.le_refl _) hk
  have B_2 : Hid (Below w.heap.size w U1) := B_1.out.trans (hk.mono B_1.out.size)
  clear hk B_1 Rm_1 Lm_1 LN_1
  have RN_2 : Hid (U1.heap[V1.heap.size]? = some (.cells N 42 (0, 0))) := ha
  clear ha
  generalize V1.heap.size = qN at *
  have kN : U1.cell? ⟨qN, 33, none⟩ = some (.slice aN 1 cN) := (cell_of_row _ _ _ _ _ _ RN_2.out).trans (by rw [hN.out]; rfl)
  go_wp2_with ((refine wpList_load_row_g (by rfl) 42 _ rfl _ rfl 42 _ (0, 0) _ Rm_2.out Try.underlying42 rfl Im.out ?_))
  refine (TK _ Lm_2.out).mono ?_
  rintro e V2 ⟨⟨aA, cA, rfl, hl⟩, hk⟩
  obtain ⟨A, hA⟩ : ∃ X, Hid (X = mcs 0 (fun _ => 0) (.slice aA 0 cA)) := ⟨_, rfl⟩
  rw [← hA.out]
  have IA : Hid ((Try.prog.info? 42).map (·.size) = some A.size) := map_info hA.out
  have OA : Hid (A.all (·.oneCell') = true) := by show _ = _; rw [hA.out]; exact ones_mcs _ _ _ _ _
  have SA : Hid ((34 : Nat) = A.size) := by show _ = _; rw [hA.out]; rfl
  have Rm_3 : Hid (V2.heap[w.heap.size]? = some (.cells T 42 (0, 0))) := (hk.block _ (heap_lt Rm_2.out)).trans Rm_2.out
  have RN_3 : Hid (V2.heap[qN]? = some (.cells N 42 (0, 0))) := (hk.block _ (heap_lt RN_2.out)).trans RN_2.out
  have Lm_3 : Hid (Lie V2 a n c f) := Lm_2.out.below (Nat.le_refl _) hk
  have LN_3 : Hid (Lie V2 aN 1 cN (fun i => 32 + i)) := LN_2.out.below (Nat.le_refl _) hk
  have B_3 : Hid (Below w.heap.size w V2) := B_2.out.trans (hk.mono B_2.out.size)
  clear hk B_2 Rm_2 RN_2 Lm_2 LN_2
  have LA_3 : Hid (Lie V2 aA 0 cA (fun _ => 0)) := hl
  clear hl
  go_upto_region 5 with (refine wpList_store_new rfl 42 _ _ rfl A _ _ rfl rfl IA.out SA.out OA.out ?_; intro U2 ha hk)
  have Rm_4 : Hid (U2.heap[w.heap.size]? = some (.cells T 42 (0, 0))) := (hk.block _ (heap_lt Rm_3.out)).trans Rm_3.out
  have RN_4 : Hid (U2.heap[qN]? = some (.cells N 42 (0, 0))) := (hk.block _ (heap_lt RN_3.out)).trans RN_3.out
  have Lm_4 : Hid (Lie U2 a n c f) := Lm_3.out.below (Nat.le_refl _) hk
  have LN_4 : Hid (Lie U2 aN 1 cN (fun i => 32 + i)) := LN_3.out.below (Nat.le_refl _) hk
  have LA_4 : Hid (Lie U2 aA 0 cA (fun _ => 0)) := LA_3.out.below (Nat.le_refl _) hk
  have B_4 : Hid (Below w.heap.size w U2) := B_3.out.trans (hk.mono B_3.out.size)
  clear hk B_3 Rm_3 RN_3 Lm_3 LN_3 LA_3
  have RA_4 : Hid (U2.heap[V2.heap.size]? = some (.cells A 42 (0, 0))) := ha
  clear ha
  generalize V2.heap.size = qA at *
  go_wp2_with ((refine wpList_load_row_g (by rfl) 42 _ rfl _ rfl 42 _ (0, 0) _ Rm_4.out Try.underlying42 rfl Im.out ?_))
  refine (MB _ Lm_4.out).mono ?_
  rintro e Y1 ⟨rfl, hk⟩
  have Rm_5 : Hid (Y1.heap[w.heap.size]? = some (.cells T 42 (0, 0))) := (hk.block _ (heap_lt Rm_4.out)).trans Rm_4.out
  have RN_5 : Hid (Y1.heap[qN]? = some (.cells N 42 (0, 0))) := (hk.block _ (heap_lt RN_4.out)).trans RN_4.out
  have RA_5 : Hid (Y1.heap[qA]? = some (.cells A 42 (0, 0))) := (hk.block _ (heap_lt RA_4.out)).trans RA_4.out
  have Lm_5 : Hid (Lie Y1 a n c f) := Lm_4.out.below (Nat.le_refl _) hk
  have LN_5 : Hid (Lie Y1 aN 1 cN (fun i => 32 + i)) := LN_4.out.below (Nat.le_refl _) hk
  have LA_5 : Hid (Lie Y1 aA 0 cA (fun _ => 0)) := LA_4.out.below (Nat.le_refl _) hk
  have B_5 : Hid (Below w.heap.size w Y1) := B_4.out.trans (hk.mono B_4.out.size)
  clear hk B_4 Rm_4 RN_4 RA_4 Lm_4 LN_4 LA_4
  have k33 : Y1.cell? ⟨w.heap.size, 33, none⟩ = some (.slice a n c) := (cell_of_row _ _ _ _ _ _ Rm_5.out).trans hT.out.f
  go_wp2_with (refine wpList_skip (by rfl) ?_)
  go_ret
  exact ⟨by first | rfl | simp, B_5.out⟩
theorem undoes (T : Array Value) (P : Int) (r f : Nat → Int) (a : Option Addr) (n c : Nat) (hT : Mp T P r a n c) (k : Int) (w : World) (hL : Lie w a n c f) :
    Calls Try.prog 7 #[.agg T, .int .i64 k] w fun e w' => e = .returned (.bool true) ∧ Below w.heap.size w w' := by
  by_cases hm : MayBe P n r f
  · by_cases hz : 0 < n
    · by_cases h1 : k < 1
      · exact undoes_no3 T P r f a n c hT k hm hz h1 w hL
      · by_cases h2 : 31 < k
        · exact undoes_no4 T P r f a n c hT k hm hz h1 h2 w hL
        · obtain ⟨j, rfl⟩ : ∃ j : Nat, k = j := ⟨k.toNat, by omega⟩
          exact undoes_yes T P r f a n c hT j (by omega) (by omega) hz hm w hL
    · obtain rfl : n = 0 := by omega
      exact undoes_no2 T P r f a c hT k hm w hL
  · exact undoes_no1 T P r f a n c hT k hm w hL
end Go.Proofs.Ytpiohehijkpghab
