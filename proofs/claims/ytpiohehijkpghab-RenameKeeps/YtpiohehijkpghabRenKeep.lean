/- RenameKeeps, walked. -/
import Derived.Test.YtpiohehijkpghabRenM
namespace Go.Proofs.Ytpiohehijkpghab
open Go.RowKit Go.Maps
open Hy
set_option linter.unusedVariables false
set_option linter.unusedSimpArgs false
/-- Bytes, as memory holds them. -/
structure LieB (w : World) (a : Option Addr) (n c : Nat) (g : Nat → Int) : Prop where
  few : n ≤ 140737488355328
  byte : ∀ i, i < n → 0 ≤ g i ∧ g i ≤ 255
  ad : 0 < n → ∃ b o, a = some ⟨b, o, none⟩ ∧ b < w.heap.size ∧ ∀ i, i < n → w.cell? ⟨b, o + i, none⟩ = some (.int .u8 (g i))
/-- A slice lies apart of a block. -/
def Apart (q : Nat) (a : Option Addr) : Prop := ∀ x, a = some x → x.block ≠ q
theorem Lie.apart {w : World} {a : Option Addr} {n c : Nat} {f : Nat → Int} (h : Lie w a n c f) (hn : 0 < n) : Apart w.heap.size a := fun x hx e => by
  obtain ⟨b, o, ha, hb, _⟩ := h.sure hn
  rw [ha] at hx
  obtain rfl := Option.some.inj hx
  exact absurd hb (by show ¬ b < _; have : b = w.heap.size := e; omega)
theorem may_take' {P : Int} {n : Nat} {r f : Nat → Int} (h : MayBe P n r f) (hn : 0 < n) (k : Nat) (hk : k < 32) : MayBe P (n - 1) (up r k (f 0)) (tl f) := by
  obtain ⟨m, rfl⟩ : ∃ m, n = m + 1 := ⟨n - 1, by omega⟩
  exact may_take h k hk
theorem idle_take' {P : Int} {n : Nat} {r f : Nat → Int} (h : MayBe P n r f) (hn : 0 < n) (k : Nat) (hk : k < 32) : Idle P (n - 1) (up r k (f 0)) (tl f) (r k) := by
  obtain ⟨m, rfl⟩ : ∃ m, n = m + 1 := ⟨n - 1, by omega⟩
  exact idle_take h k hk
theorem may_rg {P : Int} {n : Nat} {r f : Nat → Int} (h : MayBe P n r f) : Rg r := fun k hk => WalkArith.wf_i64 (by have := h.r k hk; have := h.high; omega)
set_option maxRecDepth 20000 in
set_option maxHeartbeats 1000000 in
theorem keeps_no (P : Int) (hP : ¬ (33 ≤ P ∧ P ≤ 96)) (b : Option Addr) (l lc : Nat) (w : World) :
    Calls Try.prog 6 #[.int .i64 P, .slice b l lc] w fun e w' => e = .returned (.bool true) ∧ Below w.heap.size w w' := by
  have C1 := nNew_no P hP
  obtain ⟨N, hN⟩ : ∃ N, Hid (N = zm) := ⟨_, rfl⟩
  rw [← hN.out] at C1
  have NI : Hid ((Try.prog.info? 42).map (·.size) = some N.size) := map_info hN.out
  have NO : Hid (N.all (·.oneCell') = true) := by show _ = _; rw [hN.out]; exact zm_ones
  have NS : Hid ((34 : Nat) = N.size) := by show _ = _; rw [hN.out]; rfl
  go_enter Try.func6, Try.ntmps6
  go_wp2_with fail
  refine (C1 _).mono ?_
  rintro e V1 ⟨rfl, hk1⟩
  have B1 : Hid (Below w.heap.size w V1) := hk1
  clear hk1
  go_upto_region 2 with (refine wpList_store_new rfl 42 _ _ rfl N _ _ rfl rfl NI.out NS.out NO.out ?_; intro U1 ha hk)
  have B2 : Hid (Below w.heap.size w U1) := B1.out.trans (hk.mono B1.out.size)
  clear ha hk B1
  by_cases h1 : P < 33
  · go_wp2_with fail
    go_ret
    exact ⟨rfl, B2.out⟩
  · have h2 : 96 < P := by omega
    go_wp2_with fail
    go_ret
    exact ⟨rfl, B2.out⟩
set_option maxRecDepth 20000 in
set_option maxHeartbeats 4000000 in
theorem keeps_yes (P : Int) (p0 : 33 ≤ P) (p1 : P ≤ 96) (b : Option Addr) (l lc : Nat) (g : Nat → Int) (w : World) (hG : Hid (LieB w b l lc g)) :
    Calls Try.prog 6 #[.int .i64 P, .slice b l lc] w fun e w' => e = .returned (.bool true) ∧ Below w.heap.size w w' := by
  have C1 := nNew_yes P p0 p1
  have hnew : Hid (MayBe P (P.toNat - 32) (rg P.toNat) (fun i => 32 + i)) := by
    have h := may_new P p0 p1
    refine MayBe.mk' h.low h.high (fun i hi => ?_) h.f (fun i j hi hj e => ?_) h.ff (fun i j hi hj e => ?_)
    · have : rg P.toNat i = i := if_pos (by omega)
      rw [this]; exact h.r i hi
    · have e1 : rg P.toNat i = i := if_pos (by omega)
      have e2 : rg P.toNat j = j := if_pos (by omega)
      rw [e1, e2] at e; omega
    · have e1 : rg P.toNat i = i := if_pos (by omega)
      rw [e1] at e; omega
  have lfew := hG.out.few
  go_enter Try.func6, Try.ntmps6
  go_wp2_with fail
  refine (C1 _).mono ?_
  rintro e V1 ⟨⟨aN, cN, rfl, hl⟩, hk1⟩
  obtain ⟨N, hN⟩ : ∃ N, Hid (N = mcs P (rg P.toNat) (.slice aN (P.toNat - 32) cN)) := ⟨_, rfl⟩
  rw [← hN.out]
  have NI : Hid ((Try.prog.info? 42).map (·.size) = some N.size) := map_info hN.out
  have NO : Hid (N.all (·.oneCell') = true) := by show _ = _; rw [hN.out]; exact ones_mcs _ _ _ _ _
  have NS : Hid ((34 : Nat) = N.size) := by show _ = _; rw [hN.out]; rfl
  have B1 : Hid (Below w.heap.size w V1) := hk1
  have L1 : Hid (Lie V1 aN (P.toNat - 32) cN (fun i => 32 + i)) := hl
  clear hk1 hl C1
  go_upto_region 2 with (refine wpList_store_new rfl 42 _ _ rfl N _ _ rfl rfl NI.out NS.out NO.out ?_; intro U1 ha hk)
  have hq : Hid (w.heap.size ≤ V1.heap.size) := B1.out.size
  have RM : Hid (U1.heap[V1.heap.size]? = some (.cells (mcs P (rg P.toNat) (.slice aN (P.toNat - 32) cN)) 42 (0, 0))) := by rw [← hN.out]; exact ha
  have B2 : Hid (Below w.heap.size w U1) := B1.out.trans (hk.mono B1.out.size)
  have L2 : Hid (Lie U1 aN (P.toNat - 32) cN (fun i => 32 + i)) := L1.out.below (Nat.le_refl _) hk
  have A2 : Hid (Apart V1.heap.size aN) := L1.out.apart (by omega)
  clear ha hk B1 L1 NI NO NS
  generalize V1.heap.size = q at *
  go_wp2_with fail
  go_loopw [7, 8] (fun u i wr => ∃ (k : Nat) (v : Int) (r f : Nat → Int) (a : Option Addr) (n c : Nat), k ≤ l ∧ k ≤ 200 ∧ i = .int .i64 k ∧ u = .int .i64 v ∧ (n : Int) + 32 + v = P ∧ Hid (wr.heap[q]? = some (.cells (mcs P r (.slice a n c)) 42 (0, 0))) ∧ Hid (Lie wr a n c f) ∧ Hid (MayBe P n r f) ∧ Hid (Apart q a) ∧ Hid (Below w.heap.size w wr))
    (fun _ i _ => 200 - (intOf i).toNat)
  case atStart => exact ⟨0, 0, rg P.toNat, fun i => 32 + i, aN, P.toNat - 32, cN, by omega, by omega, rfl, rfl, by omega, RM, L2, hnew, A2, B2⟩
  case round =>
    obtain ⟨k, v, r, f, a, n, c, kl, k2, rfl, rfl, hsum, RM, HL, HM, HA, HB⟩ := hrel
    have hfew := HM.out.few
    obtain ⟨M, hM⟩ : ∃ M, Hid (M = mcs P r (.slice a n c)) := ⟨_, rfl⟩
    have RM' : Hid (wr.heap[q]? = some (.cells M 42 (0, 0))) := by rw [hM.out]; exact RM
    have MI : Hid ((Try.prog.info? 42).map (·.size) = some M.size) := map_info hM.out
    have MS : Hid ((34 : Nat) = M.size) := by show _ = _; rw [hM.out]; rfl
    have m0 : M[0]? = some (.int .i64 P) := by rw [hM.out]; rfl
    have m33 : M[33]? = some (.slice a n c) := by rw [hM.out]; rfl
    have HRg : Hid (Rg r) := may_rg HM.out
    clear RM
    by_cases hlt : k < l ∧ k < 200
    · obtain ⟨hlt1, hlt2⟩ := hlt
      obtain ⟨bb, oo, rfl, hbb, hcell⟩ := hG.out.ad (by omega)
      obtain ⟨x0, x1⟩ := hG.out.byte k hlt1
      have cb : wr.cell? ⟨bb, oo + k, none⟩ = some (.int .u8 (g k)) := (HB.out.cell (p := ⟨bb, oo + k, none⟩) hbb).trans (hcell k hlt1)
      have hcb : ∀ W, Below w.heap.size w W → W.cell? ⟨bb, oo + k, none⟩ = some (.int .u8 (g k)) := fun W hW => (hW.cell (p := ⟨bb, oo + k, none⟩) hbb).trans (hcell k hlt1)
      clear hcell
      generalize g k = x at *
      obtain ⟨j, hj⟩ : ∃ j : Nat, x % 32 = j := ⟨(x % 32).toNat, by omega⟩
      have hj1 : j < 32 := by omega
      have hj2 : x.tmod 32 = (j : Int) := by rw [Int.tmod_eq_emod_of_nonneg x0]; exact hj
      by_cases hj0 : j = 0
      · subst hj0
        have hj3 : x % 32 = 0 := hj
        have hj4 : x.tmod 32 = 0 := hj2
        clear hj hj2
        have TK := fun w hL => nTake_no2 M P r f a n c hM m0 m33 HRg 0 HM (by omega) w hL
        obtain ⟨ZZ, hZ⟩ : ∃ Z, Hid (Z = zm) := ⟨_, rfl⟩
        rw [← hZ.out] at TK
        have NI : Hid ((Try.prog.info? 42).map (·.size) = some ZZ.size) := map_info hZ.out
        have NO : Hid (ZZ.all (·.oneCell') = true) := by show _ = _; rw [hZ.out]; exact zm_ones
        have NS : Hid ((34 : Nat) = ZZ.size) := by show _ = _; rw [hZ.out]; rfl
        go_wp2_with (refine wpList_load_row_g (by rfl) 42 _ rfl _ rfl 42 _ (0, 0) _ RM'.out Try.underlying42 rfl MI.out ?_)
        refine (TK _ HL).mono ?_
        rintro e V1 ⟨rfl, hk1⟩
        have R1 : Hid (V1.heap[q]? = some (.cells M 42 (0, 0))) := (hk1.block _ (heap_lt RM'.out)).trans RM'.out
        have B1 : Hid (Below w.heap.size w V1) := HB.out.trans (hk1.mono HB.out.size)
        have L1 : Hid (Lie V1 a n c f) := HL.out.below (Nat.le_refl _) hk1
        clear hk1 RM' HB HL TK
        go_upto_region 10 with (refine wpList_store_new rfl 42 _ _ rfl ZZ _ _ rfl rfl NI.out NS.out NO.out ?_; intro U1 ha hk)
        have R2 : Hid (U1.heap[q]? = some (.cells M 42 (0, 0))) := (hk.block _ (heap_lt R1.out)).trans R1.out
        have B2 : Hid (Below w.heap.size w U1) := B1.out.trans (hk.mono B1.out.size)
        have L2 : Hid (Lie U1 a n c f) := L1.out.below (Nat.le_refl _) hk
        clear ha hk R1 B1 L1
        have c33 : U1.cell? ⟨q, 33, none⟩ = some (.slice a n c) := (cell_of_row _ _ _ _ _ _ R2.out).trans m33
        go_wp2_with fail
        exact ⟨⟨k + 1, v, r, f, a, n, c, by omega, by omega, by go_num, rfl, hsum, by rw [← hM.out]; exact R2, L2, HM, HA, B2⟩, by simp [intOf]; omega⟩
      · by_cases hn0 : n = 0
        · subst hn0
          have TK := fun w hL => nTake_no3 M P r f a c hM m0 m33 HRg j HM (by omega) w hL
          obtain ⟨ZZ, hZ⟩ : ∃ Z, Hid (Z = zm) := ⟨_, rfl⟩
          rw [← hZ.out] at TK
          have NI : Hid ((Try.prog.info? 42).map (·.size) = some ZZ.size) := map_info hZ.out
          have NO : Hid (ZZ.all (·.oneCell') = true) := by show _ = _; rw [hZ.out]; exact zm_ones
          have NS : Hid ((34 : Nat) = ZZ.size) := by show _ = _; rw [hZ.out]; rfl
          go_wp2_with (refine wpList_load_row_g (by rfl) 42 _ rfl _ rfl 42 _ (0, 0) _ RM'.out Try.underlying42 rfl MI.out ?_)
          refine (TK _ HL).mono ?_
          rintro e V1 ⟨rfl, hk1⟩
          have R1 : Hid (V1.heap[q]? = some (.cells M 42 (0, 0))) := (hk1.block _ (heap_lt RM'.out)).trans RM'.out
          have B1 : Hid (Below w.heap.size w V1) := HB.out.trans (hk1.mono HB.out.size)
          have L1 : Hid (Lie V1 a 0 c f) := HL.out.below (Nat.le_refl _) hk1
          clear hk1 RM' HB HL TK
          go_upto_region 10 with (refine wpList_store_new rfl 42 _ _ rfl ZZ _ _ rfl rfl NI.out NS.out NO.out ?_; intro U1 ha hk)
          have R2 : Hid (U1.heap[q]? = some (.cells M 42 (0, 0))) := (hk.block _ (heap_lt R1.out)).trans R1.out
          have B2 : Hid (Below w.heap.size w U1) := B1.out.trans (hk.mono B1.out.size)
          have L2 : Hid (Lie U1 a 0 c f) := L1.out.below (Nat.le_refl _) hk
          clear ha hk R1 B1 L1
          have c33 : U1.cell? ⟨q, 33, none⟩ = some (.slice a 0 c) := (cell_of_row _ _ _ _ _ _ R2.out).trans m33
          have hjp : (0 : Int) < (j : Int) := by omega
          go_wp2_with fail
          exact ⟨⟨k + 1, v, r, f, a, 0, c, by omega, by omega, by go_num, rfl, hsum, by rw [← hM.out]; exact R2, L2, HM, HA, B2⟩, by simp [intOf]; omega⟩
        · have hpos : 0 < n := by omega
          have TK := fun w hL => nTake_far M P r f a n c hM HM m0 m33 HRg j (by omega) hj1 hpos w hL
          go_wp2_with (refine wpList_load_row_g (by rfl) 42 _ rfl _ rfl 42 _ (0, 0) _ RM'.out Try.underlying42 rfl MI.out ?_)
          refine (TK _ HL).mono ?_
          rintro e V1 ⟨⟨a1, c1, rfl, hl1, hfar⟩, hk1⟩
          obtain ⟨N, hN⟩ : ∃ N, Hid (N = mcs P (up r j (f 0)) (.slice a1 (n - 1) c1)) := ⟨_, rfl⟩
          rw [← hN.out]
          have NI : Hid ((Try.prog.info? 42).map (·.size) = some N.size) := map_info hN.out
          have NO : Hid (N.all (·.oneCell') = true) := by show _ = _; rw [hN.out]; exact ones_mcs _ _ _ _ _
          have NS : Hid ((34 : Nat) = N.size) := by show _ = _; rw [hN.out]; rfl
          have R1 : Hid (V1.heap[q]? = some (.cells M 42 (0, 0))) := (hk1.block _ (heap_lt RM'.out)).trans RM'.out
          have B1 : Hid (Below w.heap.size w V1) := HB.out.trans (hk1.mono HB.out.size)
          have L1 : Hid (Lie V1 a n c f) := HL.out.below (Nat.le_refl _) hk1
          have K1 : Hid (Lie V1 a1 (n - 1) c1 (tl f)) := hl1
          have A1 : Hid (Apart q a1) := fun y hy e => by have := hfar y hy; have := heap_lt RM'.out; omega
          clear hk1 hl1 hfar RM' HB HL TK
          go_upto_region 10 with (refine wpList_store_new rfl 42 _ _ rfl N _ _ rfl rfl NI.out NS.out NO.out ?_; intro U1 ha hk)
          have R2 : Hid (U1.heap[q]? = some (.cells M 42 (0, 0))) := (hk.block _ (heap_lt R1.out)).trans R1.out
          have RN2 : Hid (U1.heap[V1.heap.size]? = some (.cells N 42 (0, 0))) := ha
          have B2 : Hid (Below w.heap.size w U1) := B1.out.trans (hk.mono B1.out.size)
          have L2 : Hid (Lie U1 a n c f) := L1.out.below (Nat.le_refl _) hk
          have K2 : Hid (Lie U1 a1 (n - 1) c1 (tl f)) := K1.out.below (Nat.le_refl _) hk
          have hqn : q < V1.heap.size := heap_lt R1.out
          clear ha hk R1 B1 L1 K1
          generalize V1.heap.size = s at *
          obtain ⟨b1, o1, rfl, hb1, hc1⟩ := L2.out.sure hpos
          have c33 : U1.cell? ⟨q, 33, none⟩ = some (.slice (some ⟨b1, o1, none⟩) n c) := (cell_of_row _ _ _ _ _ _ R2.out).trans m33
          have cF : U1.cell? ⟨b1, o1, none⟩ = some (.int .i64 (f 0)) := hc1 0 hpos
          have cRm : U1.cell? ⟨q, 1 + j, none⟩ = some (.int .i64 (r j)) := (cell_of_row _ _ _ _ _ _ R2.out).trans (by rw [hM.out]; exact mcs_R _ _ _ _ hj1)
          have cRn : U1.cell? ⟨s, 1 + j, none⟩ = some (.int .i64 (f 0)) := (cell_of_row _ _ _ _ _ _ RN2.out).trans (by rw [hN.out, mcs_R _ _ _ _ hj1, up_at])
          clear hc1
          have Hm1 : Hid (MayBe P (n - 1) (up r j (f 0)) (tl f)) := may_take' HM.out hpos j hj1
          have Hi1 : Hid (Idle P (n - 1) (up r j (f 0)) (tl f) (r j)) := idle_take' HM.out hpos j hj1
          have n0 : N[0]? = some (.int .i64 P) := by rw [hN.out]; rfl
          have n33 : N[33]? = some (.slice a1 (n - 1) c1) := by rw [hN.out]; rfl
          have MB := fun w hL => nMay_any N P (up r j (f 0)) (tl f) a1 (n - 1) c1 true hN ⟨fun _ => Hm1.out, fun _ => rfl⟩ n0 n33 (may_rg Hm1.out) (by omega) w hL
          go_upto_region 13 with fail
          go_wp2_with (refine wpList_load_row_g (by rfl) 42 _ rfl _ rfl 42 _ (0, 0) _ RN2.out Try.underlying42 rfl NI.out ?_)
          refine (MB _ K2).mono ?_
          rintro e W3 ⟨rfl, hk⟩
          have R3 : Hid (W3.heap[q]? = some (.cells M 42 (0, 0))) := (hk.block _ (heap_lt R2.out)).trans R2.out
          have RN3 : Hid (W3.heap[s]? = some (.cells N 42 (0, 0))) := (hk.block _ (heap_lt RN2.out)).trans RN2.out
          have B3 : Hid (Below w.heap.size w W3) := B2.out.trans (hk.mono B2.out.size)
          have K3 : Hid (Lie W3 a1 (n - 1) c1 (tl f)) := K2.out.below (Nat.le_refl _) hk
          have SZ : Hid (M.size = N.size) := by show _ = _; rw [← MS.out, NS.out]
          clear hk R2 RN2 B2 K2 L2 c33 cF cRm cRn MB
          go_upto_region 16 with (first | (refine wpList_load_row_g (by rfl) 42 _ rfl _ rfl 42 _ (0, 0) _ RN3.out Try.underlying42 rfl NI.out ?_) | (refine wpList_store_row rfl 42 _ _ rfl _ _ rfl rfl 42 _ R3.out NI.out SZ.out NO.out ?_))
          have R4 : Hid ((W3.setRow q N).heap[q]? = some (.cells N 42 (0, 0))) := setRow_heap _ _ _ _ _ _ R3.out
          have B4 : Hid (Below w.heap.size w (W3.setRow q N)) := below_row B3.out hq.out _
          have K4 : Hid (Lie (W3.setRow q N) a1 (n - 1) c1 (tl f)) := K3.out.moved fun y hy => setRow_other _ _ _ _ (A1.out y hy)
          clear R3 B3 K3 RN3
          generalize W3.setRow q N = W4 at *
          have cb4 : W4.cell? ⟨bb, oo + k, none⟩ = some (.int .u8 x) := hcb W4 B4.out
          by_cases hx : x < 128
          · have hx' : decide (128 ≤ x) = false := by simp; omega
            go_wp2_with fail
            exact ⟨⟨k + 1, v + 1, up r j (f 0), tl f, a1, n - 1, c1, by omega, by omega, by go_num, rfl, by omega, by rw [← hN.out]; exact R4, K4, Hm1, A1, B4⟩, by simp [intOf]; omega⟩
          · have hx' : 128 ≤ x := by omega
            have GV := fun w hL => nGive_far N P (up r j (f 0)) (tl f) a1 (n - 1) c1 hN Hm1 n0 n33 (may_rg Hm1.out) (r j) Hi1 w hL
            rw [show n - 1 + 1 = n by omega] at GV
            have Hm2 : Hid (MayBe P n (up r j (f 0)) (en (tl f) (n - 1) (r j))) := by
              have h := may_give Hm1.out Hi1.out
              rw [show n - 1 + 1 = n by omega] at h
              exact h
            go_upto_region 18 with fail
            go_wp2_with (refine wpList_load_row_g (by rfl) 42 _ rfl _ rfl 42 _ (0, 0) _ R4.out Try.underlying42 rfl NI.out ?_)
            refine (GV _ K4).mono ?_
            rintro e V5 ⟨⟨a2, c2, rfl, hl, hfar⟩, hk⟩
            obtain ⟨Q, hQ⟩ : ∃ N, Hid (N = mcs P (up r j (f 0)) (.slice a2 n c2)) := ⟨_, rfl⟩
            rw [← hQ.out]
            have QI : Hid ((Try.prog.info? 42).map (·.size) = some Q.size) := map_info hQ.out
            have QO : Hid (Q.all (·.oneCell') = true) := by show _ = _; rw [hQ.out]; exact ones_mcs _ _ _ _ _
            have QS : Hid ((34 : Nat) = Q.size) := by show _ = _; rw [hQ.out]; rfl
            have q0 : Q[0]? = some (.int .i64 P) := by rw [hQ.out]; rfl
            have q33 : Q[33]? = some (.slice a2 n c2) := by rw [hQ.out]; rfl
            have R5 : Hid (V5.heap[q]? = some (.cells N 42 (0, 0))) := (hk.block _ (heap_lt R4.out)).trans R4.out
            have B5 : Hid (Below w.heap.size w V5) := B4.out.trans (hk.mono B4.out.size)
            have K5 : Hid (Lie V5 a2 n c2 (en (tl f) (n - 1) (r j))) := hl
            have A5 : Hid (Apart q a2) := fun y hy e => by have := hfar y hy; have := heap_lt R4.out; omega
            clear hk hl hfar R4 B4 K4 GV cb4
            go_upto_region 19 with (refine wpList_store_new rfl 42 _ _ rfl Q _ _ rfl rfl QI.out QS.out QO.out ?_; intro U6 ha hk)
            have R6 : Hid (U6.heap[q]? = some (.cells N 42 (0, 0))) := (hk.block _ (heap_lt R5.out)).trans R5.out
            have RQ6 : Hid (U6.heap[V5.heap.size]? = some (.cells Q 42 (0, 0))) := ha
            have B6 : Hid (Below w.heap.size w U6) := B5.out.trans (hk.mono B5.out.size)
            have K6 : Hid (Lie U6 a2 n c2 (en (tl f) (n - 1) (r j))) := K5.out.below (Nat.le_refl _) hk
            clear ha hk R5 B5 K5
            generalize V5.heap.size = t at *
            have MB := fun w hL => nMay_any Q P (up r j (f 0)) (en (tl f) (n - 1) (r j)) a2 n c2 true hQ ⟨fun _ => Hm2.out, fun _ => rfl⟩ q0 q33 (may_rg Hm2.out) (by omega) w hL
            go_wp2_with (refine wpList_load_row_g (by rfl) 42 _ rfl _ rfl 42 _ (0, 0) _ RQ6.out Try.underlying42 rfl QI.out ?_)
            refine (MB _ K6).mono ?_
            rintro e W7 ⟨rfl, hk⟩
            have R7 : Hid (W7.heap[q]? = some (.cells N 42 (0, 0))) := (hk.block _ (heap_lt R6.out)).trans R6.out
            have RQ7 : Hid (W7.heap[t]? = some (.cells Q 42 (0, 0))) := (hk.block _ (heap_lt RQ6.out)).trans RQ6.out
            have B7 : Hid (Below w.heap.size w W7) := B6.out.trans (hk.mono B6.out.size)
            have K7 : Hid (Lie W7 a2 n c2 (en (tl f) (n - 1) (r j))) := K6.out.below (Nat.le_refl _) hk
            have SQ : Hid (N.size = Q.size) := by show _ = _; rw [← NS.out, QS.out]
            clear hk R6 RQ6 B6 K6 MB
            go_upto_region 22 with (first | (refine wpList_load_row_g (by rfl) 42 _ rfl _ rfl 42 _ (0, 0) _ RQ7.out Try.underlying42 rfl QI.out ?_) | (refine wpList_store_row rfl 42 _ _ rfl _ _ rfl rfl 42 _ R7.out QI.out SQ.out QO.out ?_))
            have R8 : Hid ((W7.setRow q Q).heap[q]? = some (.cells Q 42 (0, 0))) := setRow_heap _ _ _ _ _ _ R7.out
            have B8 : Hid (Below w.heap.size w (W7.setRow q Q)) := below_row B7.out hq.out _
            have K8 : Hid (Lie (W7.setRow q Q) a2 n c2 (en (tl f) (n - 1) (r j))) := K7.out.moved fun y hy => setRow_other _ _ _ _ (A5.out y hy)
            clear R7 B7 K7 RQ7
            generalize W7.setRow q Q = W8 at *
            go_wp2_with fail
            exact ⟨⟨k + 1, v, up r j (f 0), en (tl f) (n - 1) (r j), a2, n, c2, by omega, by omega, by go_num, by go_num, by omega, by rw [← hQ.out]; exact R8, K8, Hm2, A5, B8⟩, by simp [intOf]; omega⟩
    · have MB := fun w hL => nMay_any M P r f a n c true hM ⟨fun _ => HM.out, fun _ => rfl⟩ m0 m33 HRg (by omega) w hL
      by_cases hk3 : k < l
      · have hk4 : decide ((k : Int) < 200) = false := by simp; omega
        have hk5 : (k : Int) < l := by omega
        go_wp2_with (refine wpList_load_row_g (by rfl) 42 _ rfl _ rfl 42 _ (0, 0) _ RM'.out Try.underlying42 rfl MI.out ?_)
        refine (MB _ HL).mono ?_
        rintro e W3 ⟨rfl, hk⟩
        have R3 : Hid (W3.heap[q]? = some (.cells M 42 (0, 0))) := (hk.block _ (heap_lt RM'.out)).trans RM'.out
        have B3 : Hid (Below w.heap.size w W3) := HB.out.trans (hk.mono HB.out.size)
        have c33 : W3.cell? ⟨q, 33, none⟩ = some (.slice a n c) := (cell_of_row _ _ _ _ _ _ R3.out).trans m33
        clear hk
        go_wp2_with fail
        go_ret
        refine ⟨?_, B3.out⟩
        simp
      · have hk5 : decide ((k : Int) < (l : Int)) = false := by simp; omega
        go_wp2_with (refine wpList_load_row_g (by rfl) 42 _ rfl _ rfl 42 _ (0, 0) _ RM'.out Try.underlying42 rfl MI.out ?_)
        refine (MB _ HL).mono ?_
        rintro e W3 ⟨rfl, hk⟩
        have R3 : Hid (W3.heap[q]? = some (.cells M 42 (0, 0))) := (hk.block _ (heap_lt RM'.out)).trans RM'.out
        have B3 : Hid (Below w.heap.size w W3) := HB.out.trans (hk.mono HB.out.size)
        have c33 : W3.cell? ⟨q, 33, none⟩ = some (.slice a n c) := (cell_of_row _ _ _ _ _ _ R3.out).trans m33
        clear hk
        go_wp2_with fail
        go_ret
        refine ⟨?_, B3.out⟩
        simp
theorem keeps (P : Int) (b : Option Addr) (l lc : Nat) (g : Nat → Int) (w : World) (hG : LieB w b l lc g) :
    Calls Try.prog 6 #[.int .i64 P, .slice b l lc] w fun e w' => e = .returned (.bool true) ∧ Below w.heap.size w w' := by
  by_cases hP : 33 ≤ P ∧ P ≤ 96
  · exact keeps_yes P hP.1 hP.2 b l lc g w hG
  · exact keeps_no P hP b l lc w
end Go.Proofs.Ytpiohehijkpghab
