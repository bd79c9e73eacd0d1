/- That nobody can tell two cores of one hart and memory: the law. -/
import Derived.Test.YtpiohehijkpghacGreatDoorG45
namespace Go.Proofs.YtpiohehijkpghacGreatDoor.Co
open Go.RowKit
open Hy
open Wi Od Re.Hy
open Gu.Hy (Tb tcs)
set_option linter.unusedVariables false
set_option linter.unusedSimpArgs false

/-- What a run answers, as far as the law asks. -/
def Out (w : World) (e : Ending) (er : Int) (l : List Cm) (k n : Nat) : Prop :=
  ∃ Y p c mp mc, e = .returned (.tuple #[.agg Y, .int .i64 er]) ∧ Y.size = 40 ∧ Y.all (·.oneCell') = true ∧ Y[0]? = some (.slice p k c) ∧ Y[36]? = some (.slice mp n mc) ∧ LC w p k c 11 (flat cml l)
set_option maxRecDepth 20000 in
set_option maxHeartbeats 2000000 in
theorem coreAlike_walk (wi ph wd wi' ph' wd' : Int) (H : Array Value) (st : Int) (HH : Hid ((Tryz.prog.info? 27).map (·.size) = some H.size)) (h33 : H[33]? = some (.int .i64 st)) (mp : Option Addr) (n mc : Nat) (sp : Option Addr) (sn sc : Nat) (tp : Option Addr) (tn tc : Nat) (cy cy' : Int) (hn : n ≤ 140737488355328) (w : World)
    (er fr : Int) (l l' : List Cm) (kx ky m m' : Nat) (hx : Hid (l.length = kx)) (hy : Hid (l'.length = ky)) (lx : kx ≤ 2000) (ly : ky ≤ 2000)
    (C1 : Hid (∀ W, Below w.heap.size w W → Calls Tryz.prog 6 #[.agg #[.int .i64 wi, .int .i64 ph, .int .i64 wd], .agg H, .slice mp n mc, .slice sp sn sc, .int .i64 cy] W fun e w' => Out w' e er l kx m ∧ Below W.heap.size W w'))
    (C2 : Hid (∀ W, Below w.heap.size w W → Calls Tryz.prog 6 #[.agg #[.int .i64 wi', .int .i64 ph', .int .i64 wd'], .agg H, .slice mp n mc, .slice tp tn tc, .int .i64 cy'] W fun e w' => Out w' e fr l' ky m' ∧ Below W.heap.size W w'))
    (K : (er ≠ 0 ∧ kx = 0) ∨ (er = 0 ∧ fr ≠ 0 ∧ ky = 0) ∨ (er = 0 ∧ fr = 0 ∧ m = n ∧ (∀ k, k ≤ kx → k ≤ ky → l.take k = l'.take k) ∧ (cy < 200 ∨ st ≠ 0 ∨ 0 < kx))) :
    Calls Tryz.prog 3 #[.agg #[.int .i64 wi, .int .i64 ph, .int .i64 wd], .agg #[.int .i64 wi', .int .i64 ph', .int .i64 wd'], .agg H, .slice mp n mc, .slice sp sn sc, .slice tp tn tc, .int .i64 cy, .int .i64 cy'] w fun e w' => e = .returned (.bool true) ∧ Below w.heap.size w w' := by
  have HK : Hid _ := K
  clear K
  go_enter Tryz.func3, Tryz.ntmps3
  go_upto_region 1 with fail
  refine three_boxes (Φ := fun W => Code.wp _ _ _ _ W) ?_
  intro V e1 e2 e3 hb hsz
  have HQ : Hid (V.heap[w.heap.size + 2]? = some (.cells H 27 (0, 0))) := e3
  have k0 : V.cell? ⟨w.heap.size, 0, none⟩ = some (.int .i64 wi) := by rw [cell_of_row _ _ _ _ _ _ e1]; rfl
  have k1 : V.cell? ⟨w.heap.size, 1, none⟩ = some (.int .i64 ph) := by rw [cell_of_row _ _ _ _ _ _ e1]; rfl
  have k2 : V.cell? ⟨w.heap.size, 2, none⟩ = some (.int .i64 wd) := by rw [cell_of_row _ _ _ _ _ _ e1]; rfl
  have i0 : V.cell? ⟨w.heap.size + 1, 0, none⟩ = some (.int .i64 wi') := by rw [cell_of_row _ _ _ _ _ _ e2]; rfl
  have i1 : V.cell? ⟨w.heap.size + 1, 1, none⟩ = some (.int .i64 ph') := by rw [cell_of_row _ _ _ _ _ _ e2]; rfl
  have i2 : V.cell? ⟨w.heap.size + 1, 2, none⟩ = some (.int .i64 wd') := by rw [cell_of_row _ _ _ _ _ _ e2]; rfl
  have HB : Hid (Below w.heap.size w V) := hb
  have hqV : w.heap.size + 2 < V.heap.size := by omega
  clear e1 e2 e3 hb hsz
  obtain ⟨h, hh⟩ : ∃ h, h = w.heap.size + 2 := ⟨_, rfl⟩
  obtain ⟨d, hd⟩ : ∃ d, d = w.heap.size + 1 := ⟨_, rfl⟩
  obtain ⟨q, hq⟩ : ∃ q, q = w.heap.size := ⟨_, rfl⟩
  rw [← hh] at HQ hqV ⊢
  rw [← hd] at i0 i1 i2 ⊢
  rw [← hq] at k0 k1 k2 ⊢
  have hdV : d < V.heap.size := by omega
  have HQW : Hid (q = w.heap.size ∧ d = w.heap.size + 1 ∧ h = w.heap.size + 2) := ⟨hq, hd, hh⟩
  clear hq hd hh
  go_wp2_with (refine wpList_load_row rfl 27 _ rfl _ rfl 27 _ (0, 0) _ HQ.out Tryz.underlying27 rfl HH.out ?_)
  refine (C1.out _ HB.out).mono ?_
  rintro e V1 ⟨⟨Y, p, c, xp, xc, rfl, hYs, hYo, y0, y36, hL⟩, hk1⟩
  have B1 : Hid (Below w.heap.size w V1) := HB.out.trans (hk1.mono HB.out.size)
  have Q1 : Hid (V1.heap[h]? = some (.cells H 27 (0, 0))) := (hk1.block h hqV).trans HQ.out
  have j0 : V1.cell? ⟨d, 0, none⟩ = some (.int .i64 wi') := keepC hk1 i0
  have j1 : V1.cell? ⟨d, 1, none⟩ = some (.int .i64 ph') := keepC hk1 i1
  have j2 : V1.cell? ⟨d, 2, none⟩ = some (.int .i64 wd') := keepC hk1 i2
  have hh1 : h < V1.heap.size := Nat.lt_of_lt_of_le hqV hk1.size
  have hd1 : d < V1.heap.size := Nat.lt_of_lt_of_le hdV hk1.size
  have HL : Hid (LC V1 p kx c 11 (flat cml l)) := hL
  have HYI : Hid ((Tryz.prog.info? 32).map (·.size) = some Y.size ∧ 40 = Y.size ∧ Y.all (·.oneCell') = true) := ⟨by rw [hYs]; exact size_shown, hYs.symm, hYo⟩
  clear hk1 HB HQ k0 k1 k2 i0 i1 i2 hqV hdV C1 hYs hYo hL
  go_upto_region 2 with (refine wpList_store_row rfl 32 _ _ rfl _ _ rfl rfl 32 _ (heap_alloc_new _ _) HYI.out.1 HYI.out.2.1 HYI.out.2.2 ?_; rw [World.setRow_alloc_new])
  refine one_boxC (Φ := fun W => Code.wp _ _ _ _ W) ?_
  intro V2 eY hb2
  have B2 : Hid (Below w.heap.size w V2) := B1.out.trans (hb2.mono B1.out.size)
  have Q2 : Hid (V2.heap[h]? = some (.cells H 27 (0, 0))) := (hb2.block h hh1).trans Q1.out
  have i0 : V2.cell? ⟨d, 0, none⟩ = some (.int .i64 wi') := keepC hb2 j0
  have i1 : V2.cell? ⟨d, 1, none⟩ = some (.int .i64 ph') := keepC hb2 j1
  have i2 : V2.cell? ⟨d, 2, none⟩ = some (.int .i64 wd') := keepC hb2 j2
  have hh2 : h < V2.heap.size := Nat.lt_of_lt_of_le hh1 hb2.size
  have x0 : V2.cell? ⟨V1.heap.size, 0, none⟩ = some (.slice p kx c) := by rw [cell_of_row _ _ _ _ _ _ eY]; exact y0
  have x36 : V2.cell? ⟨V1.heap.size, 36, none⟩ = some (.slice xp m xc) := by rw [cell_of_row _ _ _ _ _ _ eY]; exact y36
  have HL2 : Hid (LC V2 p kx c 11 (flat cml l)) := HL.out.below (Nat.le_refl _) hb2
  have hg2 : V1.heap.size < V2.heap.size := heap_lt eY
  obtain ⟨g, hg⟩ : ∃ g, g = V1.heap.size := ⟨_, rfl⟩
  rw [← hg] at x0 x36 hg2 ⊢
  clear eY hb2 j0 j1 j2 hh1 hd1 HYI y0 y36 B1 Q1 HL hg
  go_wp2_with (refine wpList_load_row rfl 27 _ rfl _ rfl 27 _ (0, 0) _ Q2.out Tryz.underlying27 rfl HH.out ?_)
  refine (C2.out _ B2.out).mono ?_
  rintro e V3 ⟨⟨Y, p', c', yp, yc, rfl, hYs, hYo, y0, y36, hL⟩, hk3⟩
  have B3 : Hid (Below w.heap.size w V3) := B2.out.trans (hk3.mono B2.out.size)
  have Q3 : Hid (V3.heap[h]? = some (.cells H 27 (0, 0))) := (hk3.block h hh2).trans Q2.out
  have z0 : V3.cell? ⟨g, 0, none⟩ = some (.slice p kx c) := keepC hk3 x0
  have z36 : V3.cell? ⟨g, 36, none⟩ = some (.slice xp m xc) := keepC hk3 x36
  have HL3 : Hid (LC V3 p kx c 11 (flat cml l)) := HL2.out.below (Nat.le_refl _) hk3
  have hh3 : h < V3.heap.size := Nat.lt_of_lt_of_le hh2 hk3.size
  have hg3 : g < V3.heap.size := Nat.lt_of_lt_of_le hg2 hk3.size
  have HL : Hid (LC V3 p' ky c' 11 (flat cml l')) := hL
  have HYI : Hid ((Tryz.prog.info? 32).map (·.size) = some Y.size ∧ 40 = Y.size ∧ Y.all (·.oneCell') = true) := ⟨by rw [hYs]; exact size_shown, hYs.symm, hYo⟩
  clear hk3 B2 Q2 i0 i1 i2 x0 x36 HL2 hh2 hg2 C2 hYs hYo hL
  go_upto_region 3 with (refine wpList_store_row rfl 32 _ _ rfl _ _ rfl rfl 32 _ (heap_alloc_new _ _) HYI.out.1 HYI.out.2.1 HYI.out.2.2 ?_; rw [World.setRow_alloc_new])
  refine one_boxC (Φ := fun W => Code.wp _ _ _ _ W) ?_
  intro V eY hb
  have HB : Hid (Below w.heap.size w V) := B3.out.trans (hb.mono B3.out.size)
  have x33 : V.cell? ⟨h, 33, none⟩ = some (.int .i64 st) := by rw [cell_of_row _ _ _ _ _ _ ((hb.block h hh3).trans Q3.out)]; exact h33
  have x0 : V.cell? ⟨g, 0, none⟩ = some (.slice p kx c) := keepC hb z0
  have x36 : V.cell? ⟨g, 36, none⟩ = some (.slice xp m xc) := keepC hb z36
  have w0 : V.cell? ⟨V3.heap.size, 0, none⟩ = some (.slice p' ky c') := by rw [cell_of_row _ _ _ _ _ _ eY]; exact y0
  have HX : Hid (LC V p kx c 11 (flat cml l)) := HL3.out.below (Nat.le_refl _) hb
  have HY : Hid (LC V p' ky c' 11 (flat cml l')) := HL.out.below (Nat.le_refl _) hb
  have hhV : h < V.heap.size := Nat.lt_of_lt_of_le hh3 hb.size
  have hgV : g < V.heap.size := Nat.lt_of_lt_of_le hg3 hb.size
  have hrV : V3.heap.size < V.heap.size := heap_lt eY
  obtain ⟨r, hr⟩ : ∃ r, r = V3.heap.size := ⟨_, rfl⟩
  rw [← hr] at w0 hrV ⊢
  clear eY hb z0 z36 B3 Q3 HL3 HL hh3 hg3 HYI y0 y36 hr HQW HH h33
  rcases HK.out with ⟨ne, rfl⟩ | ⟨rfl, ne, rfl⟩ | ⟨rfl, rfl, rfl, eq, hcy⟩
  · have h1 : (er != 0) = true := by simpa using ne
    clear ne
    go_wp2_with fail
    go_ret
    exact ⟨rfl, HB.out⟩
  · have h1 : (fr != 0) = true := by simpa using ne
    clear ne
    by_cases hz : kx = 0
    · subst hz
      go_wp2_with fail
      go_ret
      exact ⟨rfl, HB.out⟩
    · have hz' : ((kx : Int) == 0) = false := beq_eq_false_iff_ne.2 (by omega)
      go_wp2_with fail
      go_ret
      exact ⟨rfl, HB.out⟩
  · obtain ⟨few, hfew⟩ : ∃ few : Nat, few = min kx ky := ⟨_, rfl⟩
    have hf1 : few ≤ kx := by omega
    have hf2 : few ≤ ky := by omega
    have hmin : min (kx : Int) (ky : Int) = ((few : Nat) : Int) := by omega
    have L1 : Hid (LC V p few c 11 (flat cml (l.take few))) := lc_first HX.out hx.out few hf1
    have L2 : Hid (LC V p' few c' 11 (flat cml (l.take few))) := by have := lc_first HY.out hy.out few hf2; rw [← eq few hf1 hf2] at this; exact this
    have hlf : Hid ((l.take few).length = few) := by show _ = _; rw [List.length_take, hx.out]; omega
    have CS : ∀ W, Below V.heap.size V W → Calls Tryz.prog 7 #[.slice p few c, .slice p' few c'] W fun e w' => e = .returned (.bool true) ∧ Below W.heap.size W w' := fun W hW => sameU hlf.out (by omega) (L1.out.below (Nat.le_refl _) hW) (L2.out.below (Nat.le_refl _) hW)
    have hcc : ¬ c < few := by have := HX.out.le; omega
    have hcc' : ¬ c' < few := by have := HY.out.le; omega
    clear eq L1 L2 hlf HX HY hx hy HK hfew hf1 hf2
    go_upto_region 6 with fail
    try rw [hmin]
    clear hmin
    refine wp_region_held_drew (S := fun w' => Below V.heap.size V w') (by kernel_rfl) ((Below.refl _ _).drew) (fun hH => ?_)
    refine tI 0 (.pointer (some ⟨g, 0, none⟩)) rfl hH ?_; try go_simp
    refine tH 1 (.slice p kx c) rfl (Or.inl ⟨by rfl, by intro wz hSw; have hc := (hSw.cell (p := ⟨g, 0, none⟩) hgV).trans x0; go_simp⟩) hH ?_; try go_simp
    refine tI 2 (.int .i64 few) rfl hH ?_; try go_simp
    refine tI 3 (.slice p few c) rfl hH ?_; try go_simp
    refine tI 4 (.pointer (some ⟨r, 0, none⟩)) rfl hH ?_; try go_simp
    refine tH 5 (.slice p' ky c') rfl (Or.inl ⟨by rfl, by intro wz hSw; have hc := (hSw.cell (p := ⟨r, 0, none⟩) hrV).trans w0; go_simp⟩) hH ?_; try go_simp
    refine tI 6 (.int .i64 few) rfl hH ?_; try go_simp
    refine tI 7 (.slice p' few c') rfl hH ?_; try go_simp
    refine wpAnyH_ready (rs := [8]) (by kernel_rfl) (by simp) ?_
    refine AllReadyH.cons rfl (fun K hK => ?_) AllReadyH.nil
    go_simp
    refine (CS _ hH).mono ?_
    rintro e W1 ⟨rfl, hk⟩
    go_wp2_with fail
    refine hK.out _ _ (hH.trans (hk.mono hH.size)) (fun hH => ?_)
    clear hK K hk
    try go_simp
    refine tI 9 (.bool true) rfl hH ?_; try go_simp
    refine tI 10 (.pointer (some ⟨g, 36, none⟩)) rfl hH ?_; try go_simp
    refine tH 11 (.slice xp m xc) rfl (Or.inl ⟨by rfl, by intro wz hSw; have hc := (hSw.cell (p := ⟨g, 36, none⟩) hgV).trans x36; go_simp⟩) hH ?_; try go_simp
    refine tI 12 (.int .i64 m) rfl hH ?_; try go_simp
    refine tI 13 (.slice mp m mc) rfl hH ?_; try go_simp
    refine tI 14 (.int .i64 m) rfl hH ?_; try go_simp
    refine tI 15 (.bool true) rfl hH ?_; try go_simp
    refine tI 16 (.bool true) rfl hH ?_; try go_simp
    refine tI 17 (.bool true) rfl hH ?_; try go_simp
    refine tI 18 (.int .i64 cy) rfl hH ?_; try go_simp
    by_cases hc2 : cy < 200
    · have hlt : decide (cy < 200) = true := decide_eq_true hc2
      clear hc2 hcy
      refine tI 19 (.bool true) rfl hH ?_; try go_simp
      refine tI 20 (.bool true) rfl hH ?_; try go_simp
      refine tH 21 undef rfl (Or.inr ⟨by rfl, rfl⟩) hH ?_; try go_simp
      refine tH 22 undef rfl (Or.inr ⟨by rfl, rfl⟩) hH ?_; try go_simp
      refine tH 23 undef rfl (Or.inr ⟨by rfl, rfl⟩) hH ?_; try go_simp
      refine tI 24 (.bool true) rfl hH ?_; try go_simp
      refine tI 25 (.bool true) rfl hH ?_; try go_simp
      refine tH 26 undef rfl (Or.inr ⟨by rfl, rfl⟩) hH ?_; try go_simp
      refine tH 27 undef rfl (Or.inr ⟨by rfl, rfl⟩) hH ?_; try go_simp
      refine tH 28 undef rfl (Or.inr ⟨by rfl, rfl⟩) hH ?_; try go_simp
      refine tH 29 undef rfl (Or.inr ⟨by rfl, rfl⟩) hH ?_; try go_simp
      refine tI 30 (.bool true) rfl hH ?_; try go_simp
      refine tI 31 (.bool true) rfl hH ?_; try go_simp
      refine tI 32 (.bool true) rfl hH ?_; try go_simp
      refine wpAnyH_done (by kernel_rfl) ?_ _
      try go_simp
      go_wp2_with fail
      go_ret
      exact ⟨rfl, HB.out.trans (hH.mono HB.out.size)⟩
    · have hlt : decide (cy < 200) = false := decide_eq_false hc2
      by_cases hs : st = 0
      · subst hs
        have hk0 : 0 < kx := by rcases hcy with h | h | h <;> first | exact absurd h hc2 | exact absurd rfl h | exact h
        clear hc2 hcy
        refine tI 19 (.bool false) rfl hH ?_; try go_simp
        refine tI 20 (.bool false) rfl hH ?_; try go_simp
        refine tI 21 (.pointer (some ⟨h, 33, none⟩)) rfl hH ?_; try go_simp
        refine tH 22 (.int .i64 0) rfl (Or.inl ⟨by rfl, by intro wz hSw; have hc := (hSw.cell (p := ⟨h, 33, none⟩) hhV).trans x33; go_simp⟩) hH ?_; try go_simp
        refine tI 23 (.bool false) rfl hH ?_; try go_simp
        refine tI 24 (.bool false) rfl hH ?_; try go_simp
        refine tI 25 (.bool false) rfl hH ?_; try go_simp
        refine tI 26 (.pointer (some ⟨g, 0, none⟩)) rfl hH ?_; try go_simp
        refine tH 27 (.slice p kx c) rfl (Or.inl ⟨by rfl, by intro wz hSw; have hc := (hSw.cell (p := ⟨g, 0, none⟩) hgV).trans x0; go_simp⟩) hH ?_; try go_simp
        refine tI 28 (.int .i64 kx) rfl hH ?_; try go_simp
        refine tI 29 (.bool true) rfl hH ?_; try go_simp
        refine tI 30 (.bool true) rfl hH ?_; try go_simp
        refine tI 31 (.bool true) rfl hH ?_; try go_simp
        refine tI 32 (.bool true) rfl hH ?_; try go_simp
        refine wpAnyH_done (by kernel_rfl) ?_ _
        try go_simp
        go_wp2_with fail
        go_ret
        exact ⟨rfl, HB.out.trans (hH.mono HB.out.size)⟩
      · have hs' : (st != 0) = true := by simpa using hs
        clear hc2 hcy hs
        refine tI 19 (.bool false) rfl hH ?_; try go_simp
        refine tI 20 (.bool false) rfl hH ?_; try go_simp
        refine tI 21 (.pointer (some ⟨h, 33, none⟩)) rfl hH ?_; try go_simp
        refine tH 22 (.int .i64 st) rfl (Or.inl ⟨by rfl, by intro wz hSw; have hc := (hSw.cell (p := ⟨h, 33, none⟩) hhV).trans x33; go_simp⟩) hH ?_; try go_simp
        refine tI 23 (.bool true) rfl hH ?_; try go_simp
        refine tI 24 (.bool true) rfl hH ?_; try go_simp
        refine tI 25 (.bool true) rfl hH ?_; try go_simp
        refine tH 26 undef rfl (Or.inr ⟨by rfl, rfl⟩) hH ?_; try go_simp
        refine tH 27 undef rfl (Or.inr ⟨by rfl, rfl⟩) hH ?_; try go_simp
        refine tH 28 undef rfl (Or.inr ⟨by rfl, rfl⟩) hH ?_; try go_simp
        refine tH 29 undef rfl (Or.inr ⟨by rfl, rfl⟩) hH ?_; try go_simp
        refine tI 30 (.bool true) rfl hH ?_; try go_simp
        refine tI 31 (.bool true) rfl hH ?_; try go_simp
        refine tI 32 (.bool true) rfl hH ?_; try go_simp
        refine wpAnyH_done (by kernel_rfl) ?_ _
        try go_simp
        go_wp2_with fail
        go_ret
        exact ⟨rfl, HB.out.trans (hH.mono HB.out.size)⟩
theorem zsh_out (w : World) (er : Int) : Out w (.returned (.tuple #[.agg (rowOf zsh 40), .int .i64 er])) er [] 0 0 :=
  ⟨_, none, 0, none, 0, rfl, rowOf_size _ _, row_ones _ _ fun i _ => zsh_one i, by rw [rowOf_get _ (by omega)]; rfl, by rw [rowOf_get _ (by omega)]; rfl, lc_none _ _⟩
theorem shw_one {w : World} {r : Cr} {L : Sls} (hU : Us w 68 11 L.c r.coms.length (flat cml r.coms)) (hM : ∃ p c, L.m = .slice p r.n c) : (rowOf (shw r L) 40).all (·.oneCell') = true := row_ones _ _ fun i hi => by
  show (kat r L (3 + i)).oneCell' = true
  by_cases h0 : i = 0
  · subst h0
    exact us_one hU
  · by_cases h1 : i < 36
    · rw [show 3 + i = 4 + (i - 1) by omega, at_hart _ L (i - 1) (by omega)]
      exact hat_one _ _ _ _ _
    · rcases (by omega : i = 36 ∨ i = 37 ∨ i = 38 ∨ i = 39) with rfl | rfl | rfl | rfl
      · obtain ⟨p', c', e⟩ := hM
        show L.m.oneCell' = true
        rw [e]; rfl
      · rfl
      · rfl
      · rfl
theorem wrong_facts {win phys wide : Int} {hm : Bool} {n sn : Nat} {cyc : Int} (h : wrongN (mayC win phys wide) hm n sn cyc = 0) : (0 ≤ cyc ∧ cyc ≤ 6000) ∧ (1 ≤ win ∧ win ≤ 32) ∧ (33 ≤ phys ∧ phys ≤ 96) ∧ (1 ≤ wide ∧ wide ≤ 4) := by
  unfold wrongN at h
  have hw1 : mayC win phys wide = true := by
    cases hx : mayC win phys wide with
    | true => rfl
    | false => rw [if_pos (.inl hx)] at h; omega
  refine ⟨Classical.byContradiction fun hc => ?_, ?_⟩
  · split at h
    · omega
    · split at h
      · omega
      · first | omega | (rw [if_pos hc] at h; omega)
  · unfold mayC at hw1
    simp at hw1
    omega
/-- One run, as the law asks it. -/
theorem run_out (win phys wide : Int) (R : Nat → Int) (pc st ca : Int) (hm : Bool) (CM : Hid (∀ W, Calls Tryz.prog 25 #[.agg (hcs R pc st ca)] W fun e w' => e = .returned (.bool hm) ∧ Below W.heap.size W w')) (mp : Option Addr) (n mc : Nat) (sp : Option Addr) (sn sc : Nat) (cyc : Int) (w : World) (tb : Tab w) (tb2 : Tab2 w) (hR : ∀ i, i < 32 → U32 (R i)) (hpc : U32 pc) (f : Nat → Int) (hM : LC w mp n mc 1 (bcs f n)) (hf : ∀ i, i < n → 0 ≤ f i ∧ f i ≤ 255) (scr : List Int) (hscr : scr.length = sn) (hS : LC w sp sn sc 1 (ics scr)) (hn : n ≤ 140737488355328) (hsn : sn ≤ 140737488355328) :
    ∃ (er : Int) (l : List Cm) (m : Nat), l.length ≤ 2000 ∧ (∀ W, Below w.heap.size w W → Calls Tryz.prog 6 #[.agg #[.int .i64 win, .int .i64 phys, .int .i64 wide], .agg (hcs R pc st ca), .slice mp n mc, .slice sp sn sc, .int .i64 cyc] W fun e w' => Out w' e er l l.length m ∧ Below W.heap.size W w') ∧
      ((er ≠ 0 ∧ l = []) ∨ (er = 0 ∧ m = n ∧ ∃ r : Cr, r.coms = l ∧ r.n = n ∧ Good mach ⟨R, pc, st, ca, f⟩ r ∧ (r.st = 0 → r.cyc = cyc))) := by
  have HH : Hid ((Tryz.prog.info? 27).map (·.size) = some (hcs R pc st ca).size) := size_hart
  by_cases hw : wrongN (mayC win phys wide) hm n sn cyc = 0
  · obtain ⟨hcy, hwi, hph, hwd⟩ := wrong_facts hw
    have G0 := begin_good (M := mach) win phys wide n R pc st ca f scr hwi.1 hph.1 hph.2 hwd.1
    obtain ⟨G, a, b, c, d⟩ := runN_good mach_ok cyc.toNat _ G0 (by show (0 : Int) + _ ≤ _; omega)
    have h0 : (begin win phys wide n R pc st ca f scr).cyc = 0 := rfl
    have hrn : (runN mach cyc.toNat (begin win phys wide n R pc st ca f scr)).n = n := d
    refine ⟨0, (runN mach cyc.toNat (begin win phys wide n R pc st ca f scr)).coms, n, by have := G.most; omega, fun W hW => ?_, .inr ⟨rfl, rfl, _, rfl, hrn, G, fun h => by have := b h; rw [h0] at this; omega⟩⟩
    refine (cRun_ok win phys wide (hcs R pc st ca) hm HH CM mp n mc sp sn sc cyc hn hsn W R pc st ca (hcs_row R pc st ca) hw (tb.below hW tb.size) (tb2.below hW tb2.size) hR hpc f (hM.below (Nat.le_refl _) hW) hf scr hscr (hS.below (Nat.le_refl _) hW)).mono ?_
    rintro e w' ⟨⟨L, rfl, hU, ⟨p', c', hMm, _⟩, hG⟩, hB⟩
    obtain ⟨p, c, hLc⟩ := hU.slice
    refine ⟨⟨_, p, c, p', c', rfl, rowOf_size _ _, shw_one hU ⟨p', c', hMm⟩, ?_, ?_, ?_⟩, hB⟩
    · rw [rowOf_get _ (by omega)]
      show some L.c = _
      rw [hLc]
    · rw [rowOf_get _ (by omega)]
      show some L.m = _
      rw [hMm, hrn]
    · rw [hLc] at hU
      exact hU.lc
  · exact ⟨_, [], 0, by simp, fun W hW => (cRun_wrong win phys wide (hcs R pc st ca) hm HH CM mp n mc sp sn sc cyc hn hsn W hw).mono fun e w' ⟨he, hB⟩ => ⟨by rw [he]; exact zsh_out _ _, hB⟩, .inl ⟨hw, rfl⟩⟩
/-- Nobody can tell, for every argument. -/
theorem coreAlike_all (wi ph wd wi' ph' wd' : Int) (R : Nat → Int) (pc st ca : Int) (mp : Option Addr) (n mc : Nat) (sp : Option Addr) (sn sc : Nat) (tp : Option Addr) (tn tc : Nat) (cy cy' : Int) (w : World) (tb : Tab w) (tb2 : Tab2 w) (hR : ∀ i, i < 32 → U32 (R i)) (hpc : U32 pc) (f : Nat → Int) (hM : LC w mp n mc 1 (bcs f n)) (hf : ∀ i, i < n → 0 ≤ f i ∧ f i ≤ 255) (scr : List Int) (hscr : scr.length = sn) (hS : LC w sp sn sc 1 (ics scr)) (scr' : List Int) (hscr' : scr'.length = tn) (hS' : LC w tp tn tc 1 (ics scr')) (hn : n ≤ 140737488355328) (hsn : sn ≤ 140737488355328) (htn : tn ≤ 140737488355328) :
    Calls Tryz.prog 3 #[.agg #[.int .i64 wi, .int .i64 ph, .int .i64 wd], .agg #[.int .i64 wi', .int .i64 ph', .int .i64 wd'], hv R pc st ca, .slice mp n mc, .slice sp sn sc, .slice tp tn tc, .int .i64 cy, .int .i64 cy'] w fun e w' => e = .returned (.bool true) ∧ Below w.heap.size w w' := by
  show Calls Tryz.prog 3 #[_, _, .agg (hcs R pc st ca), _, _, _, _, _] w _
  have CM := fun W => hMay_any (hcs R pc st ca) (R 0) st ca rfl rfl rfl W
  obtain ⟨er, l, m, hl, C1, K1⟩ := run_out wi ph wd R pc st ca _ CM mp n mc sp sn sc cy w tb tb2 hR hpc f hM hf scr hscr hS hn hsn
  obtain ⟨fr, l', m', hl', C2, K2⟩ := run_out wi' ph' wd' R pc st ca _ CM mp n mc tp tn tc cy' w tb tb2 hR hpc f hM hf scr' hscr' hS' hn htn
  refine coreAlike_walk wi ph wd wi' ph' wd' (hcs R pc st ca) st size_hart rfl mp n mc sp sn sc tp tn tc cy cy' hn w er fr l l' l.length l'.length m m' rfl rfl hl hl' C1 C2 ?_
  rcases K1 with ⟨h, rfl⟩ | ⟨rfl, hm, r, rfl, hrn, G, hc⟩
  · exact .inl ⟨h, rfl⟩
  · rcases K2 with ⟨h, rfl⟩ | ⟨rfl, hm', r', rfl, hrn', G', hc'⟩
    · exact .inr (.inl ⟨rfl, h, rfl⟩)
    · refine .inr (.inr ⟨rfl, rfl, hm, fun k k1 k2 => alike G.ref G'.ref (hrn.trans hrn'.symm) k k1 k2, ?_⟩)
      by_cases h1 : cy < 200
      · exact .inl h1
      · by_cases h2 : st = 0
        · exact .inr (.inr (some_com G cy (by omega) h2 hc))
        · exact .inr (.inl h2)
end Go.Proofs.YtpiohehijkpghacGreatDoor.Co
