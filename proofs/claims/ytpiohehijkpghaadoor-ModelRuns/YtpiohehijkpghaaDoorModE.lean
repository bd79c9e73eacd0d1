/- The document's Play, one step after the other: its loop. -/
import Derived.Test.YtpiohehijkpghaaDoorModA
import Derived.Test.YtpiohehijkpghaaDoorHartR
namespace Go.Proofs.YtpiohehijkpghaaDoor
open Go.RowKit
open Hy
set_option linter.unusedVariables false
set_option linter.unusedSimpArgs false

theorem Mem.move {w w' : World} {p : Option Addr} {n : Nat} {f : Nat → Int} (h : Mem w p n f) (hb : 0 < n → ∀ g o, p = some ⟨g, o, none⟩ → w'.heap[g]? = w.heap[g]?) : Mem w' p n f := fun h0 => by
  obtain ⟨g, o, hp, hl⟩ := h h0
  exact ⟨g, o, hp, fun i hi => (World.cell?_of_block (w := w) (a := ⟨g, o + i, none⟩) (hb h0 g o hp)).trans (hl i hi)⟩
/-- Bytes that begin where a block begins do not lie in a block that begins with a word. -/
theorem far {w : World} {n h b : Nat} {f : Nat → Int} (hm : Mem w (some ⟨h, 0, none⟩) n f) (h0 : 0 < n) {cs : Array Value} {t : TypeId} {fr : Nat × Nat} (hr : w.heap[b]? = some (.cells cs t fr)) (hz : ∃ z, cs[0]? = some (.int .u32 z)) : h ≠ b := by
  rintro rfl
  obtain ⟨g, o, e, hl⟩ := hm h0
  obtain ⟨z, hz⟩ := hz
  simp at e
  obtain ⟨rfl, rfl⟩ := e
  have := hl 0 h0
  rw [Nat.add_zero, cell_of_row _ _ _ _ _ _ hr, hz] at this
  simp at this
theorem owns_first {w : World} {base m : Nat} {e : TypeId} {v : Value} {C : Nat → Array Value} (h : w.ownsRow base e 11 v m (coms C m)) (hC : ∀ i, (C i).size = 11) (hm : m = 0 → v = .slice none 0 0) {g : Nat} (hg : v.ownBlock = some g) : ∃ cur, w.heap[g]? = some (.cells cur e (0, 0)) ∧ cur[0]? = (C 0)[0]? := by
  rcases h.2 with ⟨rfl, _⟩ | ⟨g', cap, cur, hv, _, hh, hc, _, hs, ht⟩
  · simp [Value.ownBlock] at hg
  · rw [hv] at hg
    simp [Value.ownBlock] at hg
    subst hg
    have m0 : 0 < m := by
      rcases Nat.eq_zero_or_pos m with rfl | h0
      · rw [hm rfl] at hv
        simp at hv
      · exact h0
    refine ⟨cur, hh, ?_⟩
    have a := coms_get C hC m 0 0 m0 (by omega)
    rw [← ht, List.getElem?_take, if_pos (by omega)] at a
    simpa using a
/-- The bytes lie apart from the hart, from the answer, and from the commits. -/
theorem far_all {w2 : World} {B m n : Nat} {f : Nat → Int} {p q : Option Addr} {H Z : Array Value} {C : Nat → Array Value} {v : Value} {tH tZ : TypeId} (hm : Mem w2 q n f) (h0 : 0 < n) (hs : q = p ∨ ∃ h, q = some ⟨h, 0, none⟩) (hp : 0 < n → ∀ g o, p = some ⟨g, o, none⟩ → g < B)
    (rH : w2.heap[B]? = some (.cells H tH (0, 0))) (zH : ∃ z, H[0]? = some (.int .u32 z)) (rZ : w2.heap[B + 1]? = some (.cells Z tZ (0, 0))) (zZ : ∃ z, Z[0]? = some (.int .u32 z))
    (ho : w2.ownsRow (B + 1 + 1) 38 11 v m (coms C m)) (hC : (∀ i, (C i).size = 11) ∧ ∃ z, (C 0)[0]? = some (.int .u32 z)) (hn : m = 0 → v = .slice none 0 0) :
    ∀ g o, q = some ⟨g, o, none⟩ → g ≠ B ∧ g ≠ B + 1 ∧ v.ownBlock ≠ some g := by
  intro g o e
  rcases hs with rfl | ⟨h, rfl⟩
  · have := hp h0 g o e
    refine ⟨by omega, by omega, fun hv => ?_⟩
    have := (ho.lt g hv).1
    omega
  · simp at e
    obtain ⟨rfl, rfl⟩ := e
    refine ⟨far hm h0 rH zH, far hm h0 rZ zZ, fun hv => ?_⟩
    obtain ⟨cur, hr, hc⟩ := owns_first ho hC.1 hn hv
    exact far hm h0 hr (by rw [hc]; exact hC.2) rfl

set_option maxRecDepth 20000 in
set_option maxHeartbeats 4000000 in
theorem vPlay_yes (H C : Nat → Array Value) (F : Nat → Nat → Int) (st : Nat → Int) (fam : Hid (Fam H C st)) (fam0 : Hid (∀ i, ∃ z, (H i)[0]? = some (.int .u32 z))) (fam1 : Hid ((∀ i, (C i).size = 11) ∧ ∃ z, (C 0)[0]? = some (.int .u32 z))) (k n c : Nat) (p : Option Addr) (hk : k ≤ 2000) (hnc : n ≤ c) (w : World) (hM0 : Hid (Mem w p n (F 0)))
    (CQ : ∀ i W q c, (∀ j, j < i → st j = 0) → st i = 0 → Below w.heap.size w W → n ≤ c → Mem W q n (F i) → Calls Tryd.prog 18 #[.agg (H i), .slice q n c] W fun e w' => (∃ D p' cap, e = .returned (.agg D) ∧ Did D (C i) (H (i + 1)) p' n cap ∧ n ≤ cap ∧ Mem w' p' n (F (i + 1)) ∧ (p' = q ∨ ∃ h, p' = some ⟨h, 0, none⟩)) ∧ Below W.heap.size W w') :
    Calls Tryd.prog 23 #[.agg (H 0), .slice p n c, .int .i64 k] w fun e w' => (∃ m lp lc p' cap, e = .returned (.tuple #[.slice lp m lc, .agg (H m), .slice p' n cap]) ∧ Stops st k m ∧ w'.ownsRow w.heap.size 38 11 (.slice lp m lc) m (coms C m) ∧ n ≤ cap ∧ Mem w' p' n (F m)) ∧ Below w.heap.size w w' := by
  have hp : Hid (0 < n → ∀ g o, p = some ⟨g, o, none⟩ → g < w.heap.size) := fun h0 g o e => by
    obtain ⟨g', o', e', hl⟩ := hM0.out h0
    rw [e] at e'
    simp at e'
    obtain ⟨rfl, rfl⟩ := e'
    exact World.block_lt_of_cell? w _ (hl 0 h0)
  go_enter Tryd.func23, Tryd.ntmps23
  go_wp2_with fail
  go_loopw [1, 9, 10] (fun mm cm ct wr => ∃ (i : Nat) (q : Option Addr) (cp : Nat), i ≤ k ∧ ct = .int .i64 i ∧ mm = .slice q n cp ∧ n ≤ cp ∧ Hid ((∀ j, j < i → st j = 0) ∧ wr.ownsRow (w.heap.size + 1 + 1) 38 11 cm i (coms C i) ∧ (i = 0 → cm = .slice none 0 0) ∧ Mem wr q n (F i) ∧ (q = p ∨ ∃ h, q = some ⟨h, 0, none⟩) ∧ wr.heap[w.heap.size]? = some (.cells (H i) 34 (0, 0)) ∧ wr.heap[w.heap.size + 1]? = some (.cells (hcs (fun _ => 0) 0 0 0) 34 (0, 0)) ∧ Below w.heap.size w wr ∧ w.heap.size + 1 + 1 ≤ wr.heap.size)) (fun _ _ ct _ => k - (intOf ct).toNat)
  case atStart => exact ⟨0, p, c, Nat.zero_le _, rfl, rfl, hnc, fun j hj => absurd hj (by omega), World.ownsRow_nil _ _ _ _, fun _ => rfl, hM0.out.below (((Below.refl _ _).alloc (Nat.le_refl _) _).alloc (by simp) _), .inl rfl, heap_alloc2_old _ _ _, heap_alloc2_new _ _ _, ((Below.refl _ _).alloc (Nat.le_refl _) _).alloc (by simp) _, by simp⟩
  case round =>
    obtain ⟨i, q, cp, hik, rfl, rfl, hcp, hrel⟩ := hrel
    have hI : Hid ((Tryd.prog.info? 34).map (·.size) = some (H i).size) := info_hart (fam.out.hH i).1
    have cq := fun h0 => CQ i wr q cp hrel.out.1 h0 hrel.out.2.2.2.2.2.2.2.1 hcp hrel.out.2.2.2.1
    obtain ⟨hruns, hown, hnil, hM, hsrc, R34, RZ, hbw, hsz⟩ := hrel
    have k33 := (cell_of_row wr w.heap.size 33 _ _ _ R34).trans (fam.out.h33 i)
    have q3 : Hid (wr.heap[w.heap.size]? = some (.cells (H i) 34 (0, 0))) := R34
    have q4 : Hid (wr.heap[w.heap.size + 1]? = some (.cells (hcs (fun _ => 0) 0 0 0) 34 (0, 0))) := RZ
    have q5 : Hid (wr.ownsRow (w.heap.size + 1 + 1) 38 11 u9 i (coms C i)) := hown
    have q7 : Hid (Mem wr q n (F i)) := hM
    have q8 : Hid (q = p ∨ ∃ h, q = some ⟨h, 0, none⟩) := hsrc
    have q9 : Hid (i = 0 → u9 = .slice none 0 0) := hnil
    have hruns : Hid (∀ j, j < i → st j = 0) := hruns
    have b4 : Hid (Below w.heap.size w wr) := hbw
    clear CQ hown hM hsrc R34 RZ hbw hnil hM0
    by_cases hlt : i < k
    · by_cases hst : st i = 0
      · have cq := cq hst
        rw [hst] at k33
        have hI1 : Hid ((Tryd.prog.info? 34).map (·.size) = some (H (i + 1)).size) := info_hart (fam.out.hH (i + 1)).1
        have hC : Hid ((Tryd.prog.info? 38).map (·.size) = some (C i).size) := size_commit.trans (congrArg some (fam.out.hC i).1.symm)
        go_wp2_with (refine wpList_load_row rfl 34 _ rfl _ rfl 34 _ (0, 0) _ q3.out Tryd.underlying34 rfl hI.out ?_)
        refine cq.mono ?_
        rintro e w2 ⟨⟨D, q', cp', rfl, hD, hcp', hM2, hs2⟩, hk2⟩
        have hD : Hid (Did D (C i) (H (i + 1)) q' n cp') := hD
        have hM2 : Hid (Mem w2 q' n (F (i + 1))) := hM2
        have hs2 : Hid (q' = p ∨ ∃ h, q' = some ⟨h, 0, none⟩) := by
          rcases hs2 with e | e
          · rw [e]; exact q8.out
          · exact .inr e
        have hk2 : Hid (Below wr.heap.size wr w2) := hk2
        clear cq k33
        go_upto_region 6 with (refine wpList_store_row rfl 42 _ _ rfl _ _ rfl rfl 42 _ (heap_alloc_new _ _) hD.out.info hD.out.size.symm hD.out.ones ?_)
        try simp only [Act.put]
        rw [World.setRow_alloc_new]
        obtain ⟨W3, hW3⟩ : ∃ W3 : World, Hid (W3 = w2.alloc (.cells D 42)) := ⟨_, rfl⟩
        rw [← hW3.out]
        have k0 : w2.heap.size + 1 = W3.heap.size := by rw [hW3.out]; simp
        have k1 : wr.heap.size ≤ w2.heap.size := hk2.out.size
        have rD : Hid (W3.heap[w2.heap.size]? = some (.cells D 42 (0, 0))) := by rw [hW3.out]; exact heap_alloc_new _ _
        have old : Hid (∀ b, b < w2.heap.size → W3.heap[b]? = w2.heap[b]?) := fun b hb => by rw [hW3.out]; exact Below.heap_alloc _ _ _ hb
        have old2 : Hid (∀ b, b < wr.heap.size → W3.heap[b]? = wr.heap[b]?) := fun b hb => (old.out b (by omega)).trans (hk2.out.block b hb)
        have b4 : Hid (Below w.heap.size w W3) := by rw [hW3.out]; exact (b4.out.trans (hk2.out.mono (by omega))).alloc (by omega) _
        have q3 : Hid (W3.heap[w.heap.size]? = some (.cells (H i) 34 (0, 0))) := (old2.out _ (by omega)).trans q3.out
        have q4 : Hid (W3.heap[w.heap.size + 1]? = some (.cells (hcs (fun _ => 0) 0 0 0) 34 (0, 0))) := (old2.out _ (by omega)).trans q4.out
        have q6 : Hid (∀ g, u9.ownBlock = some g → g < wr.heap.size ∧ w.heap.size + 1 + 1 ≤ g) := fun g hg => ⟨(q5.out.lt g hg).2, (q5.out.lt g hg).1⟩
        have q5 : Hid (W3.ownsRow (w.heap.size + 1 + 1) 38 11 u9 i (coms C i)) := owns_move q5.out (fun g hg => old2.out g (q5.out.lt g hg).2)
        have q7 : Hid (Mem W3 q' n (F (i + 1))) := hM2.out.move (fun h0 g o e => old.out g (by
          obtain ⟨g', o', e', hl⟩ := hM2.out h0
          rw [e] at e'
          simp at e'
          obtain ⟨rfl, rfl⟩ := e'
          exact World.block_lt_of_cell? w2 _ (hl 0 h0)))
        have fa : Hid (0 < n → ∀ g o, q' = some ⟨g, o, none⟩ → g < W3.heap.size ∧ g ≠ w.heap.size ∧ g ≠ w.heap.size + 1 ∧ u9.ownBlock ≠ some g) := fun h0 g o e => ⟨by
          obtain ⟨g', o', e', hl⟩ := q7.out h0
          rw [e] at e'
          simp at e'
          obtain ⟨rfl, rfl⟩ := e'
          exact World.block_lt_of_cell? W3 _ (hl 0 h0), far_all q7.out h0 hs2.out hp.out q3.out (fam0.out i) q4.out ⟨0, rfl⟩ q5.out (fam1.out) q9.out g o e⟩
        have h11 : Hid ((C i).size = 11) := (fam.out.hC i).1
        clear hW3 old old2 hM2 q8 hk2 q9
        obtain ⟨i0, hi, hz0, hz1, hz2⟩ := info_parts info_com
        go_wp2_with (first
          | (refine wpList_load_mid_g (by rfl) 38 _ rfl _ 0 rfl (C i) _ (hD.out.rangeC rD.out) Tryd.underlying38 rfl hC.out ?_)
          | (refine wpList_buildCom rfl _ rfl (C i) rfl h11.out ?_)
          | (at_builtin; refine wpList_append_own _ rfl _ _ 48 rfl (w.heap.size + 1 + 1) 38 i0 _ 11 64 Tryd.underlying48 hi hz0 hz1 hz2 rfl (by decide) u9 i (coms C i) rfl ?q1 ⟨W3.heap.size, 0, none⟩ 1 1 (C i).toList rfl ?q2 ?q3 ?q4 ?q5 ?q6 ?q7 ?_))
        case q1 => exact owns_move q5.out (fun g hg => Below.heap_alloc _ _ _ (by have := (q6.out g hg).1; omega))
        case q2 => simp [h11.out]
        case q3 => exact new_row W3 (C i) 38
        case q4 => exact (fam.out.hC i).2.mem
        case q5 => unfold maxLen; omega
        case q6 => omega
        case q7 => simp; omega
        intro v' w5 hown5 hgrow5 _
        have g5 : Hid (∀ b, b < W3.heap.size → u9.ownBlock ≠ some b → w5.heap[b]? = W3.heap[b]?) := fun b hb hn => (hgrow5.block b (by simp; omega) (fun e => hn e.symm)).trans (Below.heap_alloc _ _ _ hb)
        have s5 : W3.heap.size + 1 ≤ w5.heap.size := by have := hgrow5.size; simpa using this
        have b5 : Hid (Below w.heap.size w w5) := (b4.out.alloc (by omega) _).grown hgrow5 (by simp; omega) (fun k hk => by have := (q6.out k hk).2; omega)
        have hown5 : Hid (w5.ownsRow (w.heap.size + 1 + 1) 38 11 v' (i + 1) (coms C (i + 1))) := hown5
        have rD5 : Hid (w5.heap[w2.heap.size]? = some (.cells D 42 (0, 0))) := (g5.out _ (by omega) (fun e => by have := (q6.out _ e).1; omega)).trans rD.out
        have r35 : Hid (w5.heap[w.heap.size]? = some (.cells (H i) 34 (0, 0))) := (g5.out _ (by omega) (fun e => by have := (q6.out _ e).2; omega)).trans q3.out
        have hS1 : Hid ((H i).size = (H (i + 1)).size) := (fam.out.hH i).1.trans (fam.out.hH (i + 1)).1.symm
        have hO1 : Hid (Ones (H (i + 1))) := (fam.out.hH (i + 1)).2
        clear hgrow5 hi hz0 hz1 hz2
        go_upto_region 8 with (first
          | (refine wpList_load_mid_g (by rfl) 34 _ rfl _ 11 rfl (H (i + 1)) _ (hD.out.rangeH rD5.out) Tryd.underlying34 rfl hI1.out ?_)
          | (refine wpList_store_row rfl 34 _ _ rfl _ _ rfl rfl 34 (H i) r35.out hI1.out hS1.out hO1.out ?_
             obtain ⟨W6, hW6⟩ : ∃ W6 : World, Hid (W6 = w5.setRow w.heap.size (H (i + 1))) := ⟨_, rfl⟩
             rw [← hW6.out]))
        have k46 : W6.cell? ⟨w2.heap.size, 46, none⟩ = some (.slice q' n cp') := hD.out.cellM (by rw [hW6.out]; exact (setRow_other _ _ _ _ (by omega)).trans rD5.out)
        go_wp2_with fail
        go_roundw
        case rel =>
          refine ⟨i + 1, q', cp', by omega, by go_num, rfl, hcp', fun j hj => ?_, ?_, fun h => absurd h (by omega), ?_, hs2.out, ?_, ?_, ?_, ?_⟩
          · by_cases e : j = i
            · rw [e]; exact hst
            · exact hruns.out j (by omega)
          · refine owns_move hown5.out (fun g hg => ?_)
            have := (hown5.out.lt g hg).1
            rw [hW6.out]
            exact setRow_other _ _ _ _ (by omega)
          · refine q7.out.move (fun h0 g o e => ?_)
            obtain ⟨l1, l2, l3, l4⟩ := fa.out h0 g o e
            rw [hW6.out]
            exact (setRow_other _ _ _ _ l2).trans (g5.out g l1 l4)
          · rw [hW6.out]
            exact setRow_heap _ _ _ _ _ _ r35.out
          · rw [hW6.out]
            exact (setRow_other _ _ _ _ (by omega)).trans ((g5.out _ (by omega) (fun e => by have := (q6.out _ e).2; omega)).trans q4.out)
          · rw [hW6.out]
            exact below_row b5.out (by omega) _
          · rw [hW6.out]
            simp
            omega
        case measure => simp [intOf]; omega
      · have hd : (st i == 0) = false := by simpa using hst
        clear cq
        go_upto_region 9 with fail
        refine wp_region_held_drew (S := fun w' => w'.heap[w.heap.size]? = wr.heap[w.heap.size]?) (by kernel_rfl) rfl (fun hH => ?_)
        refine wpAnyH_take (i := 0) (v := u9) rfl (by kernel_rfl) (by kernel_rfl) (by kernel_rfl) (fun _ _ _ h => h) (Or.inl ⟨by rfl, by intro w hSw; go_simp⟩) hH ?_
        try simp only [Act.put, List.getElem_toArray, List.getElem_cons_succ, List.getElem_cons_zero, List.setIfInBounds_toArray, List.set_cons_zero, List.set_cons_succ]
        refine wpAnyH_take (i := 1) (v := .agg (H i)) rfl (by kernel_rfl) (by kernel_rfl) (by kernel_rfl) (fun _ _ _ h => h) (yieldsIf_load_row (by rfl) 34 _ rfl _ rfl 34 _ (0, 0) _ (fun w hSw => hSw.trans q3.out) Tryd.underlying34 rfl hI.out) hH ?_
        try simp only [Act.put, List.getElem_toArray, List.getElem_cons_succ, List.getElem_cons_zero, List.setIfInBounds_toArray, List.set_cons_zero, List.set_cons_succ]
        refine wpAnyH_take (i := 2) (v := .slice q n cp) rfl (by kernel_rfl) (by kernel_rfl) (by kernel_rfl) (fun _ _ _ h => h) (Or.inl ⟨by rfl, by intro w hSw; go_simp⟩) hH ?_
        try simp only [Act.put, List.getElem_toArray, List.getElem_cons_succ, List.getElem_cons_zero, List.setIfInBounds_toArray, List.set_cons_zero, List.set_cons_succ]
        refine wpAnyH_take (i := 3) (v := u9) rfl (by kernel_rfl) (by kernel_rfl) (by kernel_rfl) (fun _ _ _ h => h) (Or.inl ⟨by rfl, by intro w hSw; go_simp⟩) hH ?_
        try simp only [Act.put, List.getElem_toArray, List.getElem_cons_succ, List.getElem_cons_zero, List.setIfInBounds_toArray, List.set_cons_zero, List.set_cons_succ]
        refine wpAnyH_ready (rs := [4]) (by kernel_rfl) (by simp) ?_
        refine AllReadyH.cons rfl (fun K hK => ?_) AllReadyH.nil
        rw [if_pos (by rfl)]
        simp only [List.getElem_toArray, List.getElem_cons_succ, List.getElem_cons_zero]
        refine wp_store_row 34 _ _ rfl _ _ rfl rfl 34 (hcs (fun _ => 0) 0 0 0) q4.out hI.out (size_as (fam.out.hH i).1) (fam.out.hH i).2 ?_
        refine hK.out _ _ (setRow_other _ _ _ _ (by omega)) (fun hH => ?_)
        clear hK K
        try simp only [Act.put, List.getElem_toArray, List.getElem_cons_succ, List.getElem_cons_zero, List.setIfInBounds_toArray, List.set_cons_zero, List.set_cons_succ]
        refine wpAnyH_take (i := 5) (v := .slice q n cp) rfl (by kernel_rfl) (by kernel_rfl) (by kernel_rfl) (fun _ _ _ h => h) (Or.inl ⟨by rfl, by intro w hSw; go_simp⟩) hH ?_
        try simp only [Act.put, List.getElem_toArray, List.getElem_cons_succ, List.getElem_cons_zero, List.setIfInBounds_toArray, List.set_cons_zero, List.set_cons_succ]
        refine wpAnyH_done (by kernel_rfl) ?_ _
        try simp only [List.getElem_toArray, List.getElem_cons_succ, List.getElem_cons_zero, List.set_cons_zero, List.set_cons_succ]
        obtain ⟨W9, hW9⟩ : ∃ W9 : World, Hid (W9 = wr.drew.setRow (w.heap.size + 1) (H i)) := ⟨_, rfl⟩
        rw [← hW9.out]
        have f2 : Hid (W9.heap[w.heap.size + 1]? = some (.cells (H i) 34 (0, 0))) := by rw [hW9.out]; exact setRow_heap _ _ _ _ _ _ q4.out
        obtain ⟨lp, lc, rfl⟩ := owns_slice q5.out
        go_wp2_with fail
        refine bodyPost_ret (v := .tuple #[.slice lp i lc, .agg (H i), .slice q n cp]) ?_ rfl ⟨⟨i, lp, lc, q, cp, rfl, ?_, ?_, hcp, ?_⟩, ?_⟩
        · have L2 := run_loadVar_row (P := Tryd.prog) _ _ 34 34 (H i) (0, 0) _ f2.out Tryd.underlying34 rfl hI.out
          simp [results, Tryd.results23, asAddr, L2]
        · exact ⟨hik, hruns.out, .inr hst⟩
        · refine owns_base (owns_move q5.out (fun g hg => ?_)) (by omega)
          have := (q5.out.lt g hg).1
          rw [hW9.out]
          exact setRow_other _ _ _ _ (by omega)
        · refine q7.out.move (fun h0 g o e => ?_)
          have := far_all q7.out h0 q8.out hp.out q3.out (fam0.out i) q4.out ⟨0, rfl⟩ q5.out (fam1.out) q9.out g o e
          rw [hW9.out]
          exact setRow_other _ _ _ _ this.2.1
        · rw [hW9.out]
          exact below_row b4.out.drew (by omega) _
    · obtain rfl : i = k := by omega
      clear cq
      go_upto_region 9 with fail
      refine wp_region_held_drew (S := fun w' => w'.heap[w.heap.size]? = wr.heap[w.heap.size]?) (by kernel_rfl) rfl (fun hH => ?_)
      refine wpAnyH_take (i := 0) (v := u9) rfl (by kernel_rfl) (by kernel_rfl) (by kernel_rfl) (fun _ _ _ h => h) (Or.inl ⟨by rfl, by intro w hSw; go_simp⟩) hH ?_
      try simp only [Act.put, List.getElem_toArray, List.getElem_cons_succ, List.getElem_cons_zero, List.setIfInBounds_toArray, List.set_cons_zero, List.set_cons_succ]
      refine wpAnyH_take (i := 1) (v := .agg (H i)) rfl (by kernel_rfl) (by kernel_rfl) (by kernel_rfl) (fun _ _ _ h => h) (yieldsIf_load_row (by rfl) 34 _ rfl _ rfl 34 _ (0, 0) _ (fun w hSw => hSw.trans q3.out) Tryd.underlying34 rfl hI.out) hH ?_
      try simp only [Act.put, List.getElem_toArray, List.getElem_cons_succ, List.getElem_cons_zero, List.setIfInBounds_toArray, List.set_cons_zero, List.set_cons_succ]
      refine wpAnyH_take (i := 2) (v := .slice q n cp) rfl (by kernel_rfl) (by kernel_rfl) (by kernel_rfl) (fun _ _ _ h => h) (Or.inl ⟨by rfl, by intro w hSw; go_simp⟩) hH ?_
      try simp only [Act.put, List.getElem_toArray, List.getElem_cons_succ, List.getElem_cons_zero, List.setIfInBounds_toArray, List.set_cons_zero, List.set_cons_succ]
      refine wpAnyH_take (i := 3) (v := u9) rfl (by kernel_rfl) (by kernel_rfl) (by kernel_rfl) (fun _ _ _ h => h) (Or.inl ⟨by rfl, by intro w hSw; go_simp⟩) hH ?_
      try simp only [Act.put, List.getElem_toArray, List.getElem_cons_succ, List.getElem_cons_zero, List.setIfInBounds_toArray, List.set_cons_zero, List.set_cons_succ]
      refine wpAnyH_ready (rs := [4]) (by kernel_rfl) (by simp) ?_
      refine AllReadyH.cons rfl (fun K hK => ?_) AllReadyH.nil
      rw [if_pos (by rfl)]
      simp only [List.getElem_toArray, List.getElem_cons_succ, List.getElem_cons_zero]
      refine wp_store_row 34 _ _ rfl _ _ rfl rfl 34 (hcs (fun _ => 0) 0 0 0) q4.out hI.out (size_as (fam.out.hH i).1) (fam.out.hH i).2 ?_
      refine hK.out _ _ (setRow_other _ _ _ _ (by omega)) (fun hH => ?_)
      clear hK K
      try simp only [Act.put, List.getElem_toArray, List.getElem_cons_succ, List.getElem_cons_zero, List.setIfInBounds_toArray, List.set_cons_zero, List.set_cons_succ]
      refine wpAnyH_take (i := 5) (v := .slice q n cp) rfl (by kernel_rfl) (by kernel_rfl) (by kernel_rfl) (fun _ _ _ h => h) (Or.inl ⟨by rfl, by intro w hSw; go_simp⟩) hH ?_
      try simp only [Act.put, List.getElem_toArray, List.getElem_cons_succ, List.getElem_cons_zero, List.setIfInBounds_toArray, List.set_cons_zero, List.set_cons_succ]
      refine wpAnyH_done (by kernel_rfl) ?_ _
      try simp only [List.getElem_toArray, List.getElem_cons_succ, List.getElem_cons_zero, List.set_cons_zero, List.set_cons_succ]
      obtain ⟨W9, hW9⟩ : ∃ W9 : World, Hid (W9 = wr.drew.setRow (w.heap.size + 1) (H i)) := ⟨_, rfl⟩
      rw [← hW9.out]
      have f2 : Hid (W9.heap[w.heap.size + 1]? = some (.cells (H i) 34 (0, 0))) := by rw [hW9.out]; exact setRow_heap _ _ _ _ _ _ q4.out
      obtain ⟨lp, lc, rfl⟩ := owns_slice q5.out
      go_wp2_with fail
      refine bodyPost_ret (v := .tuple #[.slice lp i lc, .agg (H i), .slice q n cp]) ?_ rfl ⟨⟨i, lp, lc, q, cp, rfl, ?_, ?_, hcp, ?_⟩, ?_⟩
      · have L2 := run_loadVar_row (P := Tryd.prog) _ _ 34 34 (H i) (0, 0) _ f2.out Tryd.underlying34 rfl hI.out
        simp [results, Tryd.results23, asAddr, L2]
      · exact ⟨hik, hruns.out, .inl rfl⟩
      · refine owns_base (owns_move q5.out (fun g hg => ?_)) (by omega)
        have := (q5.out.lt g hg).1
        rw [hW9.out]
        exact setRow_other _ _ _ _ (by omega)
      · refine q7.out.move (fun h0 g o e => ?_)
        have := far_all q7.out h0 q8.out hp.out q3.out (fam0.out i) q4.out ⟨0, rfl⟩ q5.out (fam1.out) q9.out g o e
        rw [hW9.out]
        exact setRow_other _ _ _ _ this.2.1
      · rw [hW9.out]
        exact below_row b4.out.drew (by omega) _
end Go.Proofs.YtpiohehijkpghaaDoor
