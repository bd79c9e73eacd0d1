/- model.Run, one step after the other: its loop. -/
import Derived.Test.YtpiohehijkpghaaDoorModA
import Derived.Test.YtpiohehijkpghaaDoorHartM
namespace Go.Proofs.YtpiohehijkpghaaDoor
open Go.RowKit
open Hy
set_option linter.unusedVariables false
set_option linter.unusedSimpArgs false

set_option maxRecDepth 20000 in
set_option maxHeartbeats 4000000 in
theorem oRun_yes (H C : Nat → Array Value) (F : Nat → Nat → Int) (st : Nat → Int) (fam : Hid (Fam H C st)) (k n c : Nat) (p : Option Addr) (hk : k ≤ 2000) (w : World)
    (CWr : ∀ W, Calls Tryd.prog 46 #[.agg (H 0), .slice p n c, .int .i64 k] W fun e w' => e = .returned (.int .i64 0) ∧ Below W.heap.size W w')
    (CCl : ∀ W, Below w.heap.size w W → Calls Tryd.prog 47 #[.slice p n c] W fun e w' => (∃ p' cap, e = .returned (.slice p' n cap) ∧ n ≤ cap ∧ Own w' W.heap.size p' n (F 0)) ∧ Below W.heap.size W w')
    (CS : ∀ i W p c, (∀ j, j < i → st j = 0) → st i = 0 → Below w.heap.size w W → n ≤ c → Mem W p n (F i) → Calls Tryd.prog 17 #[.agg (H i), .slice p n c] W fun e w' => (∃ p' cap, e = .returned (.tuple #[.agg (C i), .agg (H (i + 1)), .slice p' n cap, .bool true]) ∧ n ≤ cap ∧ Own w' W.heap.size p' n (F (i + 1))) ∧ Below W.heap.size W w')
    (CN : ∀ i W p c, (∀ j, j < i → st j = 0) → st i ≠ 0 → Calls Tryd.prog 17 #[.agg (H i), .slice p n c] W fun e w' => e = .returned (.tuple #[cv 0 0 0 0 0 0 0 0 0 false 0, hv (fun _ => 0) 0 0 0, .slice none 0 0, .bool false]) ∧ Below W.heap.size W w') :
    Calls Tryd.prog 21 #[.agg (H 0), .slice p n c, .int .i64 k] w fun e w' => (∃ m lp lc p' cap, e = .returned (.tuple #[.slice lp m lc, .agg (H m), .slice p' n cap, .int .i64 0]) ∧ Stops st k m ∧ w'.ownsRow w.heap.size 38 11 (.slice lp m lc) m (coms C m) ∧ n ≤ cap ∧ Own w' w.heap.size p' n (F m)) ∧ Below w.heap.size w w' := by
  go_enter Tryd.func21, Tryd.ntmps21
  go_wp2_with (refine wpList_load_row rfl 34 _ rfl _ rfl 34 _ (0, 0) _ (heap_alloc2_old _ _ _) Tryd.underlying34 rfl (info_hart (fam.out.hH 0).1) ?_)
  refine (CWr _).mono ?_
  rintro e w2 ⟨rfl, hk2⟩
  have hs2 := hk2.size
  simp at hs2
  have R34 : Hid (w2.heap[w.heap.size]? = some (.cells (H 0) 34 (0, 0))) := (hk2.block _ (by simp; omega)).trans (heap_alloc2_old _ _ _)
  have RZ : Hid (w2.heap[w.heap.size + 1]? = some (.cells (hcs (fun _ => 0) 0 0 0) 34 (0, 0))) := (hk2.block _ (by simp)).trans (heap_alloc2_new _ _ _)
  have hb2 : Below w.heap.size w w2 := (((Below.refl _ _).alloc (Nat.le_refl _) _).alloc (by simp) _).trans (hk2.mono (by simp; omega))
  clear hk2 CWr
  go_wp2_with fail
  refine (CCl _ hb2).mono ?_
  rintro e w3 ⟨⟨p', cap, rfl, hcap, hown⟩, hk3⟩
  have hs3 := hk3.size
  have R34 : Hid (w3.heap[w.heap.size]? = some (.cells (H 0) 34 (0, 0))) := (hk3.block _ (by omega)).trans R34.out
  have RZ : Hid (w3.heap[w.heap.size + 1]? = some (.cells (hcs (fun _ => 0) 0 0 0) 34 (0, 0))) := (hk3.block _ (by omega)).trans RZ.out
  have hb3 : Below w.heap.size w w3 := hb2.trans (hk3.mono (by omega))
  have hM : Hid (Own w3 (w.heap.size + 1 + 1) p' n (F 0)) := hown.move (by omega) (Nat.le_refl _) (fun _ _ _ => rfl)
  have hs4 : w.heap.size + 1 + 1 ≤ w3.heap.size := by omega
  clear hown hk3 hb2 hs3 hs2
  go_wp2_with fail
  have hs5 : Hid (w.heap.size + 1 + 1 ≤ w3.heap.size) := hs4
  have HB3 : Hid (Below w.heap.size w w3) := hb3
  clear hb3 hs4
  go_loopw [11, 12, 28] (fun cm lf ct wr => ∃ (i : Nat) (q : Option Addr) (cp : Nat), i ≤ k ∧ ct = .int .i64 i ∧ lf = .slice q n cp ∧ n ≤ cp ∧ Hid ((∀ j, j < i → st j = 0) ∧ wr.ownsRow (w.heap.size + 1 + 1) 38 11 cm i (coms C i) ∧ Own wr (w.heap.size + 1 + 1) q n (F i) ∧ wr.heap[w.heap.size]? = some (.cells (H i) 34 (0, 0)) ∧ wr.heap[w.heap.size + 1]? = some (.cells (hcs (fun _ => 0) 0 0 0) 34 (0, 0)) ∧ Below w.heap.size w wr ∧ w.heap.size + 1 + 1 ≤ wr.heap.size)) (fun _ _ ct _ => k - (intOf ct).toNat)
  case atStart => exact ⟨0, p', cap, Nat.zero_le _, rfl, rfl, hcap, fun j hj => absurd hj (by omega), World.ownsRow_nil _ _ _ _, hM.out, R34.out, RZ.out, HB3.out, hs5.out⟩
  case round =>
    clear RZ R34 hM HB3 hs5 hcap CCl
    obtain ⟨i, q, cp, hik, rfl, rfl, hcp, hrel⟩ := hrel
    by_cases hlt : i < k
    · have hI : Hid ((Tryd.prog.info? 34).map (·.size) = some (H i).size) := info_hart (fam.out.hH i).1
      by_cases hst : st i = 0
      · have cs := CS i wr q cp hrel.out.1 hst hrel.out.2.2.2.2.2.1 hcp hrel.out.2.2.1.mem
        obtain ⟨hruns, hown, hM, R34, RZ, hbw, hsz⟩ := hrel
        have R34 : Hid (wr.heap[w.heap.size]? = some (.cells (H i) 34 (0, 0))) := R34
        have RZ : Hid (wr.heap[w.heap.size + 1]? = some (.cells (hcs (fun _ => 0) 0 0 0) 34 (0, 0))) := RZ
        have hown : Hid (wr.ownsRow (w.heap.size + 1 + 1) 38 11 u11 i (coms C i)) := hown
        have hruns : Hid (∀ j, j < i → st j = 0) := hruns
        have hbw : Hid (Below w.heap.size w wr) := hbw
        have hC : Hid ((Tryd.prog.info? 38).map (·.size) = some (C i).size) := size_commit.trans (congrArg some (fam.out.hC i).1.symm)
        have hI1 : Hid ((Tryd.prog.info? 34).map (·.size) = some (H (i + 1)).size) := info_hart (fam.out.hH (i + 1)).1
        clear hM CS CN
        go_wp2_with (refine wpList_load_row rfl 34 _ rfl _ rfl 34 _ (0, 0) _ R34.out Tryd.underlying34 rfl hI.out ?_)
        refine cs.mono ?_
        rintro e w2 ⟨⟨q', cp', rfl, hcp', hown'⟩, hk2⟩
        have hown' : Hid (Own w2 wr.heap.size q' n (F (i + 1))) := hown'
        have hk2 : Hid (Below wr.heap.size wr w2) := hk2
        clear cs
        have hS1 : Hid ((hcs (fun _ => 0) 0 0 0).size = (H (i + 1)).size) := size_as (fam.out.hH (i + 1)).1
        have hO1 : Hid (Ones (H (i + 1))) := (fam.out.hH (i + 1)).2
        go_upto_region 10 with (first
          | (refine wpList_store_row rfl 38 _ _ rfl _ _ rfl rfl 38 (ccs 0 0 0 0 0 0 0 0 0 false 0) (heap_alloc2_old _ _ _) hC.out (fam.out.hC i).1.symm (fam.out.hC i).2 ?_
             obtain ⟨W3, hW3⟩ : ∃ W3 : World, Hid (W3 = ((w2.alloc (.cells (ccs 0 0 0 0 0 0 0 0 0 false 0) 38)).alloc (.cells (hcs (fun _ => 0) 0 0 0) 34)).setRow w2.heap.size (C i)) := ⟨_, rfl⟩
             have rZ : Hid (W3.heap[w2.heap.size + 1]? = some (.cells (hcs (fun _ => 0) 0 0 0) 34 (0, 0))) := by rw [hW3.out]; exact heap_alloc2_set _ _ _ _
             rw [← hW3.out])
          | (refine wpList_store_row rfl 34 _ _ rfl _ _ rfl rfl 34 (hcs (fun _ => 0) 0 0 0) rZ.out hI1.out hS1.out hO1.out ?_
             obtain ⟨W4, hW4⟩ : ∃ W4 : World, Hid (W4 = W3.setRow (w2.heap.size + 1) (H (i + 1))) := ⟨_, rfl⟩
             rw [← hW4.out]))
        have k0 : w2.heap.size + 1 + 1 = W4.heap.size := by rw [hW4.out, hW3.out]; simp
        have k1 : wr.heap.size ≤ w2.heap.size := hk2.out.size
        have q1 : Hid (W4.heap[w2.heap.size]? = some (.cells (C i) 38 (0, 0))) := by rw [hW4.out]; refine (setRow_other _ _ _ _ (by omega)).trans ?_; rw [hW3.out]; exact setRow_heap _ _ _ _ _ _ (heap_alloc2_old _ _ _)
        have q2 : Hid (W4.heap[w2.heap.size + 1]? = some (.cells (H (i + 1)) 34 (0, 0))) := by rw [hW4.out]; exact setRow_heap _ _ _ _ _ _ rZ.out
        have old : Hid (∀ b, b < w2.heap.size → W4.heap[b]? = w2.heap[b]?) := fun b hb => by
          rw [hW4.out]
          refine (setRow_other _ _ _ _ (by omega)).trans ?_
          rw [hW3.out]
          refine (setRow_other _ _ _ _ (by omega)).trans ?_
          rw [Below.heap_alloc _ _ _ (by simp; omega), Below.heap_alloc _ _ _ hb]
        have b4 : Hid (Below w.heap.size w W4) := by
          rw [hW4.out, hW3.out]
          exact below_row (below_row (((hbw.out.trans (hk2.out.mono (by omega))).alloc (by omega) _).alloc (by simp; omega) _) (by omega) _) (by omega) _
        have old2 : Hid (∀ b, b < wr.heap.size → W4.heap[b]? = wr.heap[b]?) := fun b hb => (old.out b (by omega)).trans (hk2.out.block b hb)
        have q3 : Hid (W4.heap[w.heap.size]? = some (.cells (H i) 34 (0, 0))) := (old2.out _ (by omega)).trans R34.out
        have q4 : Hid (W4.heap[w.heap.size + 1]? = some (.cells (hcs (fun _ => 0) 0 0 0) 34 (0, 0))) := (old2.out _ (by omega)).trans RZ.out
        have q5 : Hid (W4.ownsRow (w.heap.size + 1 + 1) 38 11 u11 i (coms C i)) := owns_move hown.out (fun g hg => old2.out g (hown.out.lt g hg).2)
        have q6 : Hid (∀ g, u11.ownBlock = some g → g < wr.heap.size ∧ w.heap.size + 1 + 1 ≤ g) := fun g hg => ⟨(hown.out.lt g hg).2, (hown.out.lt g hg).1⟩
        have q7 : Hid (Own W4 wr.heap.size q' n (F (i + 1))) := hown'.out.move (Nat.le_refl _) (by omega) (fun g _ hg => old.out g hg)
        clear hW4 hW3 rZ old old2 hown hown' R34 RZ hbw hk2 
        refine wp_region_held_drew (S := fun w' => w'.heap[w2.heap.size]? = W4.heap[w2.heap.size]? ∧ w'.heap[w2.heap.size + 1]? = W4.heap[w2.heap.size + 1]?) (by kernel_rfl) ⟨rfl, rfl⟩ (fun hH => ?_)
        refine wpAnyH_take (i := 0) (v := u11) rfl (by kernel_rfl) (by kernel_rfl) (by kernel_rfl) (fun _ _ _ h => h) (Or.inl ⟨by rfl, by intro w hSw; go_simp⟩) hH ?_
        try simp only [Act.put, List.getElem_toArray, List.getElem_cons_succ, List.getElem_cons_zero, List.setIfInBounds_toArray, List.set_cons_zero, List.set_cons_succ]
        refine wpAnyH_take (i := 1) (v := .agg (C i)) rfl (by kernel_rfl) (by kernel_rfl) (by kernel_rfl) (fun _ _ _ h => h) (yieldsIf_load_row (by rfl) 38 _ rfl _ rfl 38 _ (0, 0) _ (fun w hSw => hSw.1.trans q1.out) Tryd.underlying38 rfl hC.out) hH ?_
        try simp only [Act.put, List.getElem_toArray, List.getElem_cons_succ, List.getElem_cons_zero, List.setIfInBounds_toArray, List.set_cons_zero, List.set_cons_succ]
        refine wpAnyH_take (i := 4) (v := .agg (H (i + 1))) rfl (by kernel_rfl) (by kernel_rfl) (by kernel_rfl) (fun _ _ _ h => h) (yieldsIf_load_row (by rfl) 34 _ rfl _ rfl 34 _ (0, 0) _ (fun w hSw => hSw.2.trans q2.out) Tryd.underlying34 rfl hI1.out) hH ?_
        try simp only [Act.put, List.getElem_toArray, List.getElem_cons_succ, List.getElem_cons_zero, List.setIfInBounds_toArray, List.set_cons_zero, List.set_cons_succ]
        refine wpAnyH_take (i := 5) (v := .slice q' n cp') rfl (by kernel_rfl) (by kernel_rfl) (by kernel_rfl) (fun _ _ _ h => h) (Or.inl ⟨by rfl, by intro w hSw; go_simp⟩) hH ?_
        try simp only [Act.put, List.getElem_toArray, List.getElem_cons_succ, List.getElem_cons_zero, List.setIfInBounds_toArray, List.set_cons_zero, List.set_cons_succ]
        refine wpAnyH_ready (rs := [2]) (by kernel_rfl) (by simp) ?_
        refine AllReadyH.cons rfl (fun K hK => ?_) AllReadyH.nil
        rw [if_pos (by rfl)]
        try simp only [List.getElem_toArray, List.getElem_cons_succ, List.getElem_cons_zero]
        refine wp_buildCom _ rfl (C i) rfl (fam.out.hC i).1 ?_
        refine hK.out _ _ ⟨Below.heap_alloc _ _ _ (by simp; omega), Below.heap_alloc _ _ _ (by simp; omega)⟩ (fun hH => ?_)
        clear hK K
        try simp only [Act.put, List.getElem_toArray, List.getElem_cons_succ, List.getElem_cons_zero, List.setIfInBounds_toArray, List.set_cons_zero, List.set_cons_succ]
        refine wpAnyH_ready (rs := [3]) (by kernel_rfl) (by simp) ?_
        refine AllReadyH.cons rfl (fun K hK => ?_) AllReadyH.nil
        rw [if_pos (by rfl)]
        obtain ⟨i0, hi, hz0, hz1, hz2⟩ := info_parts info_com
        try simp only [List.getElem_toArray, List.getElem_cons_succ, List.getElem_cons_zero]
        refine wp_append_own _ _ _ 48 rfl (w.heap.size + 1 + 1) 38 i0 _ 11 64 Tryd.underlying48 hi hz0 hz1 hz2 rfl (by decide) u11 i (coms C i) rfl ?q1 ⟨W4.heap.size, 0, none⟩ 1 1 (C i).toList rfl ?q2 ?q3 ?q4 ?q5 ?q6 ?q7 ?q8
        case q1 => exact owns_move q5.out (fun g hg => Below.heap_alloc _ _ _ (by have := (q6.out g hg).1; simp; omega))
        case q2 => simp [(fam.out.hC i).1]
        case q3 => exact new_row W4.drew (C i) 38
        case q4 => exact (fam.out.hC i).2.mem
        case q5 => unfold maxLen; omega
        case q6 => omega
        case q7 => simp; omega
        intro v' w5 hown5 hgrow5 _
        have g5 : Hid (∀ b, b < W4.heap.size → u11.ownBlock ≠ some b → w5.heap[b]? = W4.heap[b]?) := fun b hb hn => (hgrow5.block b (by simp; omega) (fun e => hn e.symm)).trans (Below.heap_alloc _ _ _ (by simpa using hb))
        have s5 : W4.heap.size + 1 ≤ w5.heap.size := by have := hgrow5.size; simpa using this
        have b5 : Hid (Below w.heap.size w w5) := ((b4.out.drew).alloc (by simp; omega) _).grown hgrow5 (by simp; omega) (fun k hk => by have := (q6.out k hk).2; omega)
        have hown5 : Hid (w5.ownsRow (w.heap.size + 1 + 1) 38 11 v' (i + 1) (coms C (i + 1))) := hown5
        clear hgrow5 hi hz0 hz1 hz2
        have e1 : w5.heap[w2.heap.size]? = W4.heap[w2.heap.size]? := g5.out _ (by omega) (fun e => by have := (q6.out _ e).1; omega)
        have e2 : w5.heap[w2.heap.size + 1]? = W4.heap[w2.heap.size + 1]? := g5.out _ (by omega) (fun e => by have := (q6.out _ e).1; omega)
        refine hK.out _ _ ⟨e1, e2⟩ (fun hH => ?_)
        clear hK K
        try simp only [Act.put, List.getElem_toArray, List.getElem_cons_succ, List.getElem_cons_zero, List.setIfInBounds_toArray, List.set_cons_zero, List.set_cons_succ]
        refine wpAnyH_take (i := 6) (v := v') rfl (by kernel_rfl) (by kernel_rfl) (by kernel_rfl) (fun _ _ _ h => h) (Or.inl ⟨by rfl, by intro w hSw; go_simp⟩) hH ?_
        try simp only [Act.put, List.getElem_toArray, List.getElem_cons_succ, List.getElem_cons_zero, List.setIfInBounds_toArray, List.set_cons_zero, List.set_cons_succ]
        refine wpAnyH_ready (rs := [7]) (by kernel_rfl) (by simp) ?_
        refine AllReadyH.cons rfl (fun K hK => ?_) AllReadyH.nil
        rw [if_pos (by rfl)]
        try simp only [List.getElem_toArray, List.getElem_cons_succ, List.getElem_cons_zero]
        refine wp_store_row 34 _ _ rfl _ _ rfl rfl 34 (H i) ((g5.out _ (by omega) (fun e => by have := (q6.out _ e).2; omega)).trans q3.out) hI1.out ((fam.out.hH i).1.trans (fam.out.hH (i + 1)).1.symm) hO1.out ?_
        refine hK.out _ _ ⟨(setRow_other _ _ _ _ (by omega)).trans e1, (setRow_other _ _ _ _ (by omega)).trans e2⟩ (fun hH => ?_)
        clear hK K
        try simp only [Act.put, List.getElem_toArray, List.getElem_cons_succ, List.getElem_cons_zero, List.setIfInBounds_toArray, List.set_cons_zero, List.set_cons_succ]
        refine wpAnyH_take (i := 8) (v := .slice q' n cp') rfl (by kernel_rfl) (by kernel_rfl) (by kernel_rfl) (fun _ _ _ h => h) (Or.inl ⟨by rfl, by intro w hSw; go_simp⟩) hH ?_
        try simp only [Act.put, List.getElem_toArray, List.getElem_cons_succ, List.getElem_cons_zero, List.setIfInBounds_toArray, List.set_cons_zero, List.set_cons_succ]
        refine wpAnyH_done (by kernel_rfl) ?_ _
        try simp only [List.getElem_toArray, List.getElem_cons_succ, List.getElem_cons_zero, List.set_cons_zero, List.set_cons_succ]
        obtain ⟨W6, hW6⟩ : ∃ W6 : World, Hid (W6 = w5.setRow w.heap.size (H (i + 1))) := ⟨_, rfl⟩
        rw [← hW6.out]
        go_wp2_with fail
        go_roundw
        case rel =>
          refine ⟨i + 1, q', cp', by omega, by go_num, rfl, hcp', fun j hj => ?_, ?_, ?_, ?_, ?_, ?_, ?_⟩
          · by_cases e : j = i
            · rw [e]; exact hst
            · exact hruns.out j (by omega)
          · refine owns_move hown5.out (fun g hg => ?_)
            have := (hown5.out.lt g hg).1
            rw [hW6.out]
            exact setRow_other _ _ _ _ (by omega)
          · refine q7.out.move (by omega) (by rw [hW6.out]; simp; omega) (fun g hg hg2 => ?_)
            rw [hW6.out]
            exact (setRow_other _ _ _ _ (by omega)).trans (g5.out g hg2 (fun e => by have := (q6.out _ e).1; omega))
          · rw [hW6.out]
            exact setRow_heap _ _ _ _ _ _ ((g5.out _ (by omega) (fun e => by have := (q6.out _ e).2; omega)).trans q3.out)
          · rw [hW6.out]
            exact (setRow_other _ _ _ _ (by omega)).trans ((g5.out _ (by omega) (fun e => by have := (q6.out _ e).2; omega)).trans q4.out)
          · rw [hW6.out]
            exact below_row b5.out (by omega) _
          · rw [hW6.out]
            simp
            omega
        case measure => simp [intOf]; omega
      · obtain ⟨Z, HZ⟩ : ∃ Z : Array Value, Hid (Z = hcs (fun _ => 0) 0 0 0) := ⟨_, rfl⟩
        obtain ⟨Y, HY⟩ : ∃ Y : Array Value, Hid (Y = ccs 0 0 0 0 0 0 0 0 0 false 0) := ⟨_, rfl⟩
        have cn : Calls Tryd.prog 17 #[.agg (H i), .slice q n cp] wr fun e w' => e = .returned (.tuple #[.agg Y, .agg Z, .slice none 0 0, .bool false]) ∧ Below wr.heap.size wr w' := by
          rw [HY.out, HZ.out]
          exact CN i wr q cp hrel.out.1 hst
        obtain ⟨hruns, hown, hM, R34, RZ, hbw, hsz⟩ := hrel
        have R34 : Hid (wr.heap[w.heap.size]? = some (.cells (H i) 34 (0, 0))) := R34
        have RZ : Hid (wr.heap[w.heap.size + 1]? = some (.cells (hcs (fun _ => 0) 0 0 0) 34 (0, 0))) := RZ
        have hown : Hid (wr.ownsRow (w.heap.size + 1 + 1) 38 11 u11 i (coms C i)) := hown
        have hruns : Hid (∀ j, j < i → st j = 0) := hruns
        have hbw : Hid (Below w.heap.size w wr) := hbw
        have hM : Hid (Own wr (w.heap.size + 1 + 1) q n (F i)) := hM
        clear CS CN
        go_wp2_with (refine wpList_load_row rfl 34 _ rfl _ rfl 34 _ (0, 0) _ R34.out Tryd.underlying34 rfl hI.out ?_)
        refine cn.mono ?_
        rintro e w2 ⟨rfl, hk2⟩
        have hk2 : Hid (Below wr.heap.size wr w2) := hk2
        clear cn
        have zI : Hid ((Tryd.prog.info? 34).map (·.size) = some Z.size) := by rw [HZ.out]; exact size_hart
        have yI : Hid ((Tryd.prog.info? 38).map (·.size) = some Y.size) := by rw [HY.out]; exact size_commit
        have zO : Hid (Ones Z) := by rw [HZ.out]; exact hcs_ones _ _ _ _
        have yO : Hid (Ones Y) := by rw [HY.out]; exact ones_ccs _ _ _ _ _ _ _ _ _ _ _
        have zS : Hid ((hcs (fun _ => 0) 0 0 0).size = Z.size) := by show _ = _; rw [HZ.out]
        have yS : Hid ((ccs 0 0 0 0 0 0 0 0 0 false 0).size = Y.size) := by show _ = _; rw [HY.out]
        go_upto_region 9 with (first
          | (refine wpList_store_row rfl 38 _ _ rfl _ _ rfl rfl 38 (ccs 0 0 0 0 0 0 0 0 0 false 0) (heap_alloc2_old _ _ _) yI.out yS.out yO.out ?_
             obtain ⟨W3, hW3⟩ : ∃ W3 : World, Hid (W3 = ((w2.alloc (.cells (ccs 0 0 0 0 0 0 0 0 0 false 0) 38)).alloc (.cells (hcs (fun _ => 0) 0 0 0) 34)).setRow w2.heap.size Y) := ⟨_, rfl⟩
             have rZ : Hid (W3.heap[w2.heap.size + 1]? = some (.cells (hcs (fun _ => 0) 0 0 0) 34 (0, 0))) := by rw [hW3.out]; exact heap_alloc2_set _ _ _ _
             rw [← hW3.out])
          | (refine wpList_store_row rfl 34 _ _ rfl _ _ rfl rfl 34 (hcs (fun _ => 0) 0 0 0) rZ.out zI.out zS.out zO.out ?_
             obtain ⟨W4, hW4⟩ : ∃ W4 : World, Hid (W4 = W3.setRow (w2.heap.size + 1) Z) := ⟨_, rfl⟩
             rw [← hW4.out]))
        go_upto_region 12 with fail
        have k0 : w2.heap.size + 1 + 1 = W4.heap.size := by rw [hW4.out, hW3.out]; simp
        have k1 : wr.heap.size ≤ w2.heap.size := hk2.out.size
        have old2 : Hid (∀ b, b < wr.heap.size → W4.heap[b]? = wr.heap[b]?) := fun b hb => by
          rw [hW4.out]
          refine (setRow_other _ _ _ _ (by omega)).trans ?_
          rw [hW3.out]
          refine (setRow_other _ _ _ _ (by omega)).trans ?_
          rw [Below.heap_alloc _ _ _ (by simp; omega), Below.heap_alloc _ _ _ (by omega)]
          exact hk2.out.block b hb
        have b4 : Hid (Below w.heap.size w W4) := by
          rw [hW4.out, hW3.out]
          exact below_row (below_row (((hbw.out.trans (hk2.out.mono (by omega))).alloc (by omega) _).alloc (by simp; omega) _) (by omega) _) (by omega) _
        have q3 : Hid (W4.heap[w.heap.size]? = some (.cells (H i) 34 (0, 0))) := (old2.out _ (by omega)).trans R34.out
        have q4 : Hid (W4.heap[w.heap.size + 1]? = some (.cells (hcs (fun _ => 0) 0 0 0) 34 (0, 0))) := (old2.out _ (by omega)).trans RZ.out
        have q5 : Hid (W4.ownsRow (w.heap.size + 1 + 1) 38 11 u11 i (coms C i)) := owns_move hown.out (fun g hg => old2.out g (hown.out.lt g hg).2)
        have q7 : Hid (Own W4 (w.heap.size + 1 + 1) q n (F i)) := hM.out.move (Nat.le_refl _) (by omega) (fun g _ hg => old2.out g hg)
        clear hW4 hW3 rZ old2 hown hM R34 RZ hbw hk2 zI yI zO yO zS yS
        refine wp_region_held_drew (S := fun w' => w'.heap[w.heap.size]? = W4.heap[w.heap.size]?) (by kernel_rfl) rfl (fun hH => ?_)
        refine wpAnyH_take (i := 0) (v := u11) rfl (by kernel_rfl) (by kernel_rfl) (by kernel_rfl) (fun _ _ _ h => h) (Or.inl ⟨by rfl, by intro w hSw; go_simp⟩) hH ?_
        try simp only [Act.put, List.getElem_toArray, List.getElem_cons_succ, List.getElem_cons_zero, List.setIfInBounds_toArray, List.set_cons_zero, List.set_cons_succ]
        refine wpAnyH_take (i := 1) (v := .agg (H i)) rfl (by kernel_rfl) (by kernel_rfl) (by kernel_rfl) (fun _ _ _ h => h) (yieldsIf_load_row (by rfl) 34 _ rfl _ rfl 34 _ (0, 0) _ (fun w hSw => hSw.trans q3.out) Tryd.underlying34 rfl hI.out) hH ?_
        try simp only [Act.put, List.getElem_toArray, List.getElem_cons_succ, List.getElem_cons_zero, List.setIfInBounds_toArray, List.set_cons_zero, List.set_cons_succ]
        refine wpAnyH_take (i := 2) (v := .slice q n cp) rfl (by kernel_rfl) (by kernel_rfl) (by kernel_rfl) (fun _ _ _ h => h) (Or.inl ⟨by rfl, by intro w hSw; go_simp⟩) hH ?_
        try simp only [Act.put, List.getElem_toArray, List.getElem_cons_succ, List.getElem_cons_zero, List.setIfInBounds_toArray, List.set_cons_zero, List.set_cons_succ]
        refine wpAnyH_take (i := 3) (v := u11) rfl (by kernel_rfl) (by kernel_rfl) (by kernel_rfl) (fun _ _ _ h => h) (Or.inl ⟨by rfl, by intro w hSw; go_simp⟩) hH ?_
        try simp only [Act.put, List.getElem_toArray, List.getElem_cons_succ, List.getElem_cons_zero, List.setIfInBounds_toArray, List.set_cons_zero, List.set_cons_succ]
        refine wpAnyH_ready (rs := [4]) (by kernel_rfl) (by simp) ?_
        refine AllReadyH.cons rfl (fun K hK => ?_) AllReadyH.nil
        rw [if_pos (by rfl)]
        try simp only [List.getElem_toArray, List.getElem_cons_succ, List.getElem_cons_zero]
        refine wp_store_row 34 _ _ rfl _ _ rfl rfl 34 (hcs (fun _ => 0) 0 0 0) q4.out hI.out (size_as (fam.out.hH i).1) (fam.out.hH i).2 ?_
        refine hK.out _ _ (setRow_other _ _ _ _ (by omega)) (fun hH => ?_)
        clear hK K
        try simp only [Act.put, List.getElem_toArray, List.getElem_cons_succ, List.getElem_cons_zero, List.setIfInBounds_toArray, List.set_cons_zero, List.set_cons_succ]
        refine wpAnyH_take (i := 5) (v := .slice q n cp) rfl (by kernel_rfl) (by kernel_rfl) (by kernel_rfl) (fun _ _ _ h => h) (Or.inl ⟨by rfl, by intro w hSw; go_simp⟩) hH ?_
        try simp only [Act.put, List.getElem_toArray, List.getElem_cons_succ, List.getElem_cons_zero, List.setIfInBounds_toArray, List.set_cons_zero, List.set_cons_succ]
        refine wpAnyH_take (i := 6) (v := .int .i64 0) rfl (by kernel_rfl) (by kernel_rfl) (by kernel_rfl) (fun _ _ _ h => h) (Or.inl ⟨by rfl, by intro w hSw; go_simp⟩) hH ?_
        try simp only [Act.put, List.getElem_toArray, List.getElem_cons_succ, List.getElem_cons_zero, List.setIfInBounds_toArray, List.set_cons_zero, List.set_cons_succ]
        refine wpAnyH_done (by kernel_rfl) ?_ _
        try simp only [List.getElem_toArray, List.getElem_cons_succ, List.getElem_cons_zero, List.set_cons_zero, List.set_cons_succ]
        obtain ⟨W9, hW9⟩ : ∃ W9 : World, Hid (W9 = W4.drew.setRow (w.heap.size + 1) (H i)) := ⟨_, rfl⟩
        rw [← hW9.out]
        have f2 : Hid (W9.heap[w.heap.size + 1]? = some (.cells (H i) 34 (0, 0))) := by rw [hW9.out]; exact setRow_heap _ _ _ _ _ _ q4.out
        obtain ⟨lp, lc, rfl⟩ := owns_slice q5.out
        go_wp2_with fail
        refine bodyPost_ret (v := .tuple #[.slice lp i lc, .agg (H i), .slice q n cp, .int .i64 0]) ?_ rfl ⟨⟨i, lp, lc, q, cp, rfl, ?_, ?_, hcp, ?_⟩, ?_⟩
        · have L2 := run_loadVar_row (P := Tryd.prog) _ _ 34 34 (H i) (0, 0) _ f2.out Tryd.underlying34 rfl hI.out
          simp [results, Tryd.results21, asAddr, L2]
        · exact ⟨hik, hruns.out, .inr hst⟩
        · refine owns_base (owns_move q5.out (fun g hg => ?_)) (by omega)
          have := (q5.out.lt g hg).1
          rw [hW9.out]
          exact setRow_other _ _ _ _ (by omega)
        · refine q7.out.move (by omega) (by rw [hW9.out]; simp) (fun g hg _ => ?_)
          rw [hW9.out]
          exact setRow_other _ _ _ _ (by omega)
        · rw [hW9.out]
          exact below_row b4.out.drew (by omega) _
    · obtain rfl : i = k := by omega
      have hI : Hid ((Tryd.prog.info? 34).map (·.size) = some (H i).size) := info_hart (fam.out.hH i).1
      obtain ⟨hruns, hown, hM, R34, RZ, hbw, hsz⟩ := hrel
      have q3 : Hid (wr.heap[w.heap.size]? = some (.cells (H i) 34 (0, 0))) := R34
      have q4 : Hid (wr.heap[w.heap.size + 1]? = some (.cells (hcs (fun _ => 0) 0 0 0) 34 (0, 0))) := RZ
      have q5 : Hid (wr.ownsRow (w.heap.size + 1 + 1) 38 11 u11 i (coms C i)) := hown
      have q7 : Hid (Own wr (w.heap.size + 1 + 1) q n (F i)) := hM
      have hruns : Hid (∀ j, j < i → st j = 0) := hruns
      have b4 : Hid (Below w.heap.size w wr) := hbw
      clear CS CN hown hM R34 RZ hbw
      go_upto_region 12 with fail
      refine wp_region_held_drew (S := fun w' => w'.heap[w.heap.size]? = wr.heap[w.heap.size]?) (by kernel_rfl) rfl (fun hH => ?_)
      refine wpAnyH_take (i := 0) (v := u11) rfl (by kernel_rfl) (by kernel_rfl) (by kernel_rfl) (fun _ _ _ h => h) (Or.inl ⟨by rfl, by intro w hSw; go_simp⟩) hH ?_
      try simp only [Act.put, List.getElem_toArray, List.getElem_cons_succ, List.getElem_cons_zero, List.setIfInBounds_toArray, List.set_cons_zero, List.set_cons_succ]
      refine wpAnyH_take (i := 1) (v := .agg (H i)) rfl (by kernel_rfl) (by kernel_rfl) (by kernel_rfl) (fun _ _ _ h => h) (yieldsIf_load_row (by rfl) 34 _ rfl _ rfl 34 _ (0, 0) _ (fun w hSw => hSw.trans q3.out) Tryd.underlying34 rfl hI.out) hH ?_
      try simp only [Act.put, List.getElem_toArray, List.getElem_cons_succ, List.getElem_cons_zero, List.setIfInBounds_toArray, List.set_cons_zero, List.set_cons_succ]
      refine wpAnyH_take (i := 2) (v := .slice q n cp) rfl (by kernel_rfl) (by kernel_rfl) (by kernel_rfl) (fun _ _ _ h => h) (Or.inl ⟨by rfl, by intro w hSw; go_simp⟩) hH ?_
      try simp only [Act.put, List.getElem_toArray, List.getElem_cons_succ, List.getElem_cons_zero, List.setIfInBounds_toArray, List.set_cons_zero, List.set_cons_succ]
      refine wpAnyH_take (i := 3) (v := u11) rfl (by kernel_rfl) (by kernel_rfl) (by kernel_rfl) (fun _ _ _ h => h) (Or.inl ⟨by rfl, by intro w hSw; go_simp⟩) hH ?_
      try simp only [Act.put, List.getElem_toArray, List.getElem_cons_succ, List.getElem_cons_zero, List.setIfInBounds_toArray, List.set_cons_zero, List.set_cons_succ]
      refine wpAnyH_ready (rs := [4]) (by kernel_rfl) (by simp) ?_
      refine AllReadyH.cons rfl (fun K hK => ?_) AllReadyH.nil
      rw [if_pos (by rfl)]
      try simp only [List.getElem_toArray, List.getElem_cons_succ, List.getElem_cons_zero]
      refine wp_store_row 34 _ _ rfl _ _ rfl rfl 34 (hcs (fun _ => 0) 0 0 0) q4.out hI.out (size_as (fam.out.hH i).1) (fam.out.hH i).2 ?_
      refine hK.out _ _ (setRow_other _ _ _ _ (by omega)) (fun hH => ?_)
      clear hK K
      try simp only [Act.put, List.getElem_toArray, List.getElem_cons_succ, List.getElem_cons_zero, List.setIfInBounds_toArray, List.set_cons_zero, List.set_cons_succ]
      refine wpAnyH_take (i := 5) (v := .slice q n cp) rfl (by kernel_rfl) (by kernel_rfl) (by kernel_rfl) (fun _ _ _ h => h) (Or.inl ⟨by rfl, by intro w hSw; go_simp⟩) hH ?_
      try simp only [Act.put, List.getElem_toArray, List.getElem_cons_succ, List.getElem_cons_zero, List.setIfInBounds_toArray, List.set_cons_zero, List.set_cons_succ]
      refine wpAnyH_take (i := 6) (v := .int .i64 0) rfl (by kernel_rfl) (by kernel_rfl) (by kernel_rfl) (fun _ _ _ h => h) (Or.inl ⟨by rfl, by intro w hSw; go_simp⟩) hH ?_
      try simp only [Act.put, List.getElem_toArray, List.getElem_cons_succ, List.getElem_cons_zero, List.setIfInBounds_toArray, List.set_cons_zero, List.set_cons_succ]
      refine wpAnyH_done (by kernel_rfl) ?_ _
      try simp only [List.getElem_toArray, List.getElem_cons_succ, List.getElem_cons_zero, List.set_cons_zero, List.set_cons_succ]
      obtain ⟨W9, hW9⟩ : ∃ W9 : World, Hid (W9 = wr.drew.setRow (w.heap.size + 1) (H i)) := ⟨_, rfl⟩
      rw [← hW9.out]
      have f2 : Hid (W9.heap[w.heap.size + 1]? = some (.cells (H i) 34 (0, 0))) := by rw [hW9.out]; exact setRow_heap _ _ _ _ _ _ q4.out
      obtain ⟨lp, lc, rfl⟩ := owns_slice q5.out
      go_wp2_with fail
      refine bodyPost_ret (v := .tuple #[.slice lp i lc, .agg (H i), .slice q n cp, .int .i64 0]) ?_ rfl ⟨⟨i, lp, lc, q, cp, rfl, ?_, ?_, hcp, ?_⟩, ?_⟩
      · have L2 := run_loadVar_row (P := Tryd.prog) _ _ 34 34 (H i) (0, 0) _ f2.out Tryd.underlying34 rfl hI.out
        simp [results, Tryd.results21, asAddr, L2]
      · exact ⟨hik, hruns.out, .inl rfl⟩
      · refine owns_base (owns_move q5.out (fun g hg => ?_)) (by omega)
        have := (q5.out.lt g hg).1
        rw [hW9.out]
        exact setRow_other _ _ _ _ (by omega)
      · refine q7.out.move (by omega) (by rw [hW9.out]; simp) (fun g hg _ => ?_)
        rw [hW9.out]
        exact setRow_other _ _ _ _ (by omega)
      · rw [hW9.out]
        exact below_row b4.out.drew (by omega) _
end Go.Proofs.YtpiohehijkpghaaDoor
