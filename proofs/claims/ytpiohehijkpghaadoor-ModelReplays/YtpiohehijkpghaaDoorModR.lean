/- The law that who does what the commits tell, and no more, has the hart and the memory, walked. -/
import Derived.Test.YtpiohehijkpghaaDoorModG
import Derived.Test.YtpiohehijkpghaaDoorHartU
namespace Go.Proofs.YtpiohehijkpghaaDoor
open Go.RowKit
open Hy
set_option linter.unusedVariables false
set_option linter.unusedSimpArgs false

/-- 'append([]byte{}, memory...)': the bytes, in a block of the call's own. -/
theorem wpList_append_bytes {ops : Array Oper} {rest : List Oper} {o : Oper} {a : Act} {Q : Exit → Act → World → Prop} (hgd : o.guard = none) (s x : Operand)
    (ho : o.op = .call { callee := .builtin .append, args := #[s, x], argTypes := #[35, 35] }) (W : World) (hs : a.eval s = .slice (some ⟨W.heap.size, 0, none⟩) 0 0) (p : Option Addr) (n c : Nat) (hx : a.eval x = .slice p n c) (f : Nat → Int) (hn : n ≤ 4096) (hm : Mem W p n f) (hc : p = none → c = 0)
    (h : ∀ q cp w', (q = none → cp = 0) → Own w' W.heap.size q n f → Below W.heap.size W w' → wpList Tryd.prog ops Q rest (a.put o.dst (.slice q n cp)) w') : wpList Tryd.prog ops Q (o :: rest) a (W.alloc (.cells #[] 5)) := by
  obtain ⟨i0, hi, hz0, hz1, hz2⟩ := info_parts info5
  cases p with
  | none =>
    obtain rfl := hc rfl
    have n0 : n = 0 := by
      rcases Nat.eq_zero_or_pos n with e | e
      · exact e
      · obtain ⟨g, o, e, _⟩ := hm e
        cases e
    subst n0
    exact wpList_append_own_none hgd s x 35 ho W.heap.size 5 i0 1 Tryd.underlying35 hi _ 0 [] hs (World.ownsRow_made W #[] 0 (Nat.le_refl _) (Nat.zero_le _) rfl) hx (h _ 0 _ (fun _ => rfl) (fun h => absurd h (by omega)) ((Below.refl _ _).alloc (Nat.le_refl _) _))
  | some ad =>
    refine wpList_append_own _ hgd s x 35 ho W.heap.size 5 i0 (.int .u8 0) 1 1 Tryd.underlying35 hi hz0 hz1 hz2 rfl (by decide) _ _ _ hs (World.ownsRow_made W #[] 0 (Nat.le_refl _) (Nat.zero_le _) rfl) ad n c ((List.range n).map fun i => Value.int .u8 (f i)) hx ?qc1 ?qc2 ?qc3 ?qc4 ?qc5 ?qc6 ?_
    case qc1 => simp
    case qc2 =>
      intro j u hj
      have hjn : j < n := by
        have := (List.getElem?_eq_some_iff.1 hj).1
        simpa using this
      obtain ⟨g, o', e, hl⟩ := hm (by omega)
      simp at e
      subst e
      have hbk := World.block_lt_of_cell? _ _ (hl j hjn)
      rw [((Below.refl W.heap.size W).alloc (Nat.le_refl _) _).cell (by rw [Go.WideShapes.add_plain]; exact hbk)]
      simp [hjn] at hj
      rw [← hj, Go.WideShapes.add_plain]
      exact hl j hjn
    case qc3 => intro u hu; obtain ⟨x, _, rfl⟩ := List.mem_map.1 hu; rfl
    case qc4 => unfold maxLen; omega
    case qc5 => omega
    case qc6 => simp
    intro v' w1 hown hgrow hnil
    have hown' : w1.ownsRow W.heap.size 5 1 v' n ((List.range n).map fun i => Value.int .u8 (f i)) := by simpa using hown
    have hB : Below W.heap.size W w1 := ((Below.refl _ W).alloc (Nat.le_refl _) _).grown hgrow (by simp) (by intro k hk; simp [Value.ownBlock] at hk; omega)
    rcases Nat.eq_zero_or_pos n with e | e
    · subst e
      rcases hown'.2 with ⟨rfl, _⟩ | ⟨g, cap', cur, rfl, _⟩
      · exact h none 0 w1 (fun _ => rfl) (fun h => absurd h (by omega)) hB
      · exact h _ _ w1 (fun h => nomatch h) (fun h => absurd h (by omega)) hB
    · obtain ⟨g, cap, rfl, hcap, hmax, hF⟩ := fr_of_own e hown'
      exact h _ _ w1 (fun h => nomatch h) (fun _ => ⟨g, rfl, hF⟩) hB

set_option maxRecDepth 20000 in
set_option maxHeartbeats 4000000 in
theorem replays_err (H : Array Value) (p : Option Addr) (n c : Nat) (K E : Int) (w : World) (hI : Hid (H.size = 35)) (hE : (E != 0) = true)
    (CR : ∀ W, Calls Tryd.prog 21 #[.agg H, .slice p n c, .int .i64 K] W fun e w' => e = .returned (.tuple #[.slice none 0 0, hv (fun _ => 0) 0 0 0, .slice none 0 0, .int .i64 E]) ∧ Below W.heap.size W w') :
    Calls Tryd.prog 9 #[.agg H, .slice p n c, .int .i64 K] w fun e w' => e = .returned (.bool true) ∧ Below w.heap.size w w' := by
  go_enter Tryd.func9, Tryd.ntmps9
  go_wp2_with (refine wpList_load_row rfl 34 _ rfl _ rfl 34 _ (0, 0) _ (heap_alloc_new _ _) Tryd.underlying34 rfl (info_hart hI.out) ?_)
  refine (CR _).mono ?_
  rintro e w2 ⟨rfl, hk2⟩
  have hs2 : w.heap.size + 1 ≤ w2.heap.size := by have := hk2.size; simpa using this
  have hb2 : Hid (Below w.heap.size w w2) := ((Below.refl _ _).alloc (Nat.le_refl _) _).trans (hk2.mono (by simp))
  clear hk2 CR
  go_upto_region 2 with (refine wpList_store_row rfl 34 _ _ rfl _ _ rfl rfl 34 (hcs (fun _ => 0) 0 0 0) (heap_alloc_new _ _) size_hart rfl ones_zero ?_)
  try simp only [Act.put]
  rw [World.setRow_alloc_new]
  obtain ⟨W3, hW3⟩ : ∃ W3 : World, Hid (W3 = w2.alloc (.cells (hcs (fun _ => 0) 0 0 0) 34)) := ⟨_, rfl⟩
  rw [← hW3.out]
  have hb3 : Hid (Below w.heap.size w W3) := by rw [hW3.out]; exact hb2.out.alloc (by omega) _
  clear hW3 hb2
  go_wp2_with fail
  go_ret
  exact ⟨rfl, hb3.out⟩

set_option maxRecDepth 20000 in
set_option maxHeartbeats 4000000 in
theorem replays_ok (H C : Nat → Array Value) (F : Nat → Nat → Int) (st pcs : Nat → Int) (fam : Hid (Fam H C st)) (fpc : Hid (∀ i, (C i)[0]? = some (.int .u32 (pcs i)) ∧ (H i)[32]? = some (.int .u32 (pcs i)))) (k m n c : Nat) (p : Option Addr) (hn : n ≤ 4096) (hk : k ≤ 2000) (hst : Hid (Stops st k m)) (w : World) (hM0 : Hid (Mem w p n (F 0))) (hc : Hid (p = none → c = 0))
    (q34 : ∀ w, (binOp .eql 34 (.agg (H m)) (.agg (H m))).run Tryd.prog w = .ok (.bool true) w)
    (CR : ∀ W, Below w.heap.size w W → Calls Tryd.prog 21 #[.agg (H 0), .slice p n c, .int .i64 k] W fun e w' => (∃ lp lc p' cap, e = .returned (.tuple #[.slice lp m lc, .agg (H m), .slice p' n cap, .int .i64 0]) ∧ w'.ownsRow W.heap.size 38 11 (.slice lp m lc) m (coms C m) ∧ Mem w' p' n (F m)) ∧ Below W.heap.size W w')
    (CK : ∀ i W q c, i < m → Mem W q n (F i) → (q = none → c = 0) → Calls Tryd.prog 20 #[.agg (H i), .slice q n c, .agg (C i)] W fun e w' => (∃ p' cap, e = .returned (.tuple #[.agg (H (i + 1)), .slice p' n cap]) ∧ (p' = none → cap = 0) ∧ Own w' W.heap.size p' n (F (i + 1))) ∧ Below W.heap.size W w') :
    Calls Tryd.prog 9 #[.agg (H 0), .slice p n c, .int .i64 k] w fun e w' => e = .returned (.bool true) ∧ Below w.heap.size w w' := by
  have xI : Hid ((Tryd.prog.info? 34).map (·.size) = some (H m).size) := info_hart (fam.out.hH m).1
  have hI0 : Hid ((Tryd.prog.info? 34).map (·.size) = some (H 0).size) := info_hart (fam.out.hH 0).1
  have hmk : m ≤ k := hst.out.le
  go_enter Tryd.func9, Tryd.ntmps9
  go_wp2_with (refine wpList_load_row rfl 34 _ rfl _ rfl 34 _ (0, 0) _ (heap_alloc_new _ _) Tryd.underlying34 rfl hI0.out ?_)
  refine (CR _ ((Below.refl _ _).alloc (Nat.le_refl _) _)).mono ?_
  rintro e w2 ⟨⟨lp, lc, p', cap, rfl, hown, hM⟩, hk2⟩
  have hs2 : w.heap.size + 1 ≤ w2.heap.size := by have := hk2.size; simpa using this
  have R34 : Hid (w2.heap[w.heap.size]? = some (.cells (H 0) 34 (0, 0))) := (hk2.block _ (by simp)).trans (heap_alloc_new _ _)
  have hb2 : Hid (Below w.heap.size w w2) := ((Below.refl _ _).alloc (Nat.le_refl _) _).trans (hk2.mono (by simp))
  have hown : Hid (w2.ownsRow (w.heap.size + 1) 38 11 (.slice lp m lc) m (coms C m)) := by have h := hown; simp at h; exact h
  have hM : Hid (Mem w2 p' n (F m)) := hM
  have hlb : Hid (∀ g, (Value.slice lp m lc).ownBlock = some g → g < w2.heap.size) := fun g hg => (hown.out.lt g hg).2
  have hpb : Hid (0 < n → ∀ g o, p' = some ⟨g, o, none⟩ → g < w2.heap.size) := fun h0 g o e => by
    obtain ⟨g', o', e', hl⟩ := hM.out h0
    rw [e] at e'
    simp at e'
    obtain ⟨rfl, rfl⟩ := e'
    exact World.block_lt_of_cell? w2 _ (hl 0 h0)
  clear hk2 CR
  go_upto_region 2 with (refine wpList_store_row rfl 34 _ _ rfl _ _ rfl rfl 34 (hcs (fun _ => 0) 0 0 0) (heap_alloc_new _ _) xI.out (size_as (fam.out.hH m).1) (fam.out.hH m).2 ?_)
  try simp only [Act.put]
  rw [World.setRow_alloc_new]
  obtain ⟨W3, hW3⟩ : ∃ W3 : World, Hid (W3 = w2.alloc (.cells (H m) 34)) := ⟨_, rfl⟩
  rw [← hW3.out]
  have s3 : w2.heap.size + 1 = W3.heap.size := by rw [hW3.out]; simp
  have R34 : Hid (W3.heap[w.heap.size]? = some (.cells (H 0) 34 (0, 0))) := by rw [hW3.out]; exact (Below.heap_alloc _ _ _ (by omega)).trans R34.out
  have RX : Hid (W3.heap[w2.heap.size]? = some (.cells (H m) 34 (0, 0))) := by rw [hW3.out]; exact heap_alloc_new _ _
  have hb3 : Hid (Below w.heap.size w W3) := by rw [hW3.out]; exact hb2.out.alloc (by omega) _
  have hown : Hid (W3.ownsRow (w.heap.size + 1) 38 11 (.slice lp m lc) m (coms C m)) := by rw [hW3.out]; exact hown.out.alloc _
  have hM : Hid (Mem W3 p' n (F m)) := by rw [hW3.out]; exact hM.out.below ((Below.refl _ _).alloc (Nat.le_refl _) _)
  clear hW3 hb2
  go_upto_region 4 with fail
  go_upto_region 5 with (first
    | (refine wpList_load_row rfl 34 _ rfl _ rfl 34 _ (0, 0) _ R34.out Tryd.underlying34 rfl hI0.out ?_)
    | (refine wpList_store_row rfl 34 _ _ rfl _ _ rfl rfl 34 (hcs (fun _ => 0) 0 0 0) (heap_alloc_new _ _) hI0.out (size_as (fam.out.hH 0).1) (fam.out.hH 0).2 ?_))
  try simp only [Act.put]
  rw [World.setRow_alloc_new]
  obtain ⟨W4, hW4⟩ : ∃ W4 : World, Hid (W4 = W3.alloc (.cells (H 0) 34)) := ⟨_, rfl⟩
  rw [← hW4.out]
  have s4 : W3.heap.size + 1 = W4.heap.size := by rw [hW4.out]; simp
  have RX : Hid (W4.heap[w2.heap.size]? = some (.cells (H m) 34 (0, 0))) := by rw [hW4.out]; exact (Below.heap_alloc _ _ _ (by omega)).trans RX.out
  have RY : Hid (W4.heap[W3.heap.size]? = some (.cells (H 0) 34 (0, 0))) := by rw [hW4.out]; exact heap_alloc_new _ _
  have hb4 : Hid (Below w.heap.size w W4) := by rw [hW4.out]; exact hb3.out.alloc (by omega) _
  have hown : Hid (W4.ownsRow (w.heap.size + 1) 38 11 (.slice lp m lc) m (coms C m)) := by rw [hW4.out]; exact hown.out.alloc _
  have hM : Hid (Mem W4 p' n (F m)) := by rw [hW4.out]; exact hM.out.below ((Below.refl _ _).alloc (Nat.le_refl _) _)
  clear hW4 hb3 R34
  go_wp2_with (at_builtin; refine wpList_append_bytes rfl _ _ rfl W4 rfl p n c rfl (F 0) hn (hM0.out.below hb4.out) hc.out ?_)
  intro q0 cp0 w5 hq0 hO0 hk5
  have s5 : W4.heap.size ≤ w5.heap.size := hk5.size
  have RX : Hid (w5.heap[w2.heap.size]? = some (.cells (H m) 34 (0, 0))) := (hk5.block _ (by omega)).trans RX.out
  have RY : Hid (w5.heap[W3.heap.size]? = some (.cells (H 0) 34 (0, 0))) := (hk5.block _ (by omega)).trans RY.out
  have hb5 : Hid (Below w.heap.size w w5) := hb4.out.trans (hk5.mono (by omega))
  have hown : Hid (w5.ownsRow (w.heap.size + 1) 38 11 (.slice lp m lc) m (coms C m)) := owns_move hown.out (fun g hg => hk5.block g (hown.out.lt g hg).2)
  have hM : Hid (Mem w5 p' n (F m)) := hM.out.below hk5
  have hO0 : Hid (Own w5 W4.heap.size q0 n (F 0)) := hO0
  have hq0 : Hid (q0 = none → cp0 = 0) := hq0
  clear hk5 hb4
  go_wp2_with fail
  go_loopw [12, 13] (fun nn ct wr => ∃ (i : Nat) (q : Option Addr) (cp : Nat), i ≤ m ∧ ct = .int .i64 i ∧ nn = .slice q n cp ∧ Hid ((q = none → cp = 0) ∧ Own wr W4.heap.size q n (F i) ∧ (∀ b, b < W3.heap.size → wr.heap[b]? = w5.heap[b]?) ∧ wr.heap[W3.heap.size]? = some (.cells (H i) 34 (0, 0)) ∧ Below w.heap.size w wr ∧ W4.heap.size ≤ wr.heap.size)) (fun _ ct _ => m - (intOf ct).toNat)
  case atStart => exact ⟨0, q0, cp0, Nat.zero_le _, rfl, rfl, hq0.out, hO0.out, fun _ _ => rfl, RY.out, hb5.out, s5⟩
  case round =>
    obtain ⟨i, q, cp, him, rfl, rfl, hrel⟩ := hrel
    obtain ⟨hq, hO, old, rY, hbw, hsz⟩ := hrel
    have hq : Hid (q = none → cp = 0) := hq
    have hO : Hid (Own wr W4.heap.size q n (F i)) := hO
    have old : Hid (∀ b, b < W3.heap.size → wr.heap[b]? = w5.heap[b]?) := old
    have rY : Hid (wr.heap[W3.heap.size]? = some (.cells (H i) 34 (0, 0))) := rY
    have hbw : Hid (Below w.heap.size w wr) := hbw
    have hI : Hid ((Tryd.prog.info? 34).map (·.size) = some (H i).size) := info_hart (fam.out.hH i).1
    by_cases hlt : i < m
    · obtain ⟨g, hlp, hg2, hrg⟩ : ∃ g, lp = some ⟨g, 0, none⟩ ∧ g < w2.heap.size ∧ Hid (∀ j, j < m → w5.rangeAt g (j * 11) (C j).toList) := by
        rcases hown.out.2 with ⟨_, e⟩ | ⟨g, cap', cur, e, _⟩
        · omega
        · simp at e
          obtain ⟨rfl, rfl⟩ := e
          exact ⟨g, rfl, hlb.out g rfl, owns_at hown.out (fun i => (fam.out.hC i).1)⟩
      subst hlp
      have hst0 : st i = 0 := hst.out.runs i hlt
      have hC : Hid ((Tryd.prog.info? 38).map (·.size) = some (C i).size) := size_commit.trans (congrArg some (fam.out.hC i).1.symm)
      have hI1 : Hid ((Tryd.prog.info? 34).map (·.size) = some (H (i + 1)).size) := info_hart (fam.out.hH (i + 1)).1
      have hrng : Hid (wr.rangeAt g (i * 11) (C i).toList) := fun j v hv => (World.cell?_of_block (w := w5) (a := ⟨g, i * 11 + j, none⟩) (old.out g (by omega))).trans (hrg.out i hlt j v hv)
      have c0 : Hid (wr.cell? ⟨g, i * 11, none⟩ = some (.int .u32 (pcs i))) := hrng.out 0 _ (by have := (fpc.out i).1; simpa using this)
      have c32 : Hid (wr.cell? ⟨W3.heap.size, 32, none⟩ = some (.int .u32 (pcs i))) := (cell_of_row wr W3.heap.size 32 _ _ _ rY.out).trans (fpc.out i).2
      have c33 : Hid (wr.cell? ⟨W3.heap.size, 33, none⟩ = some (.int .i64 0)) := (cell_of_row wr W3.heap.size 33 _ _ _ rY.out).trans (by rw [fam.out.h33 i, hst0])
      have ck := CK i wr.drew.drew q cp hlt hO.out.mem hq.out
      clear CK
      go_upto_region 9 with fail
      refine wp_region_held_drew (S := fun w' => w'.heap = wr.heap) (by kernel_rfl) rfl (fun hH => ?_)
      refine wpAnyH_take (i := 0) (v := .slice (some ⟨g, 0, none⟩) m lc) rfl (by kernel_rfl) (by kernel_rfl) (by kernel_rfl) (fun _ _ _ h => h) (Or.inl ⟨by rfl, by intro w hSw; go_simp⟩) hH ?_
      try simp only [Act.put, List.getElem_toArray, List.getElem_cons_succ, List.getElem_cons_zero, List.setIfInBounds_toArray, List.set_cons_zero, List.set_cons_succ]
      refine wpAnyH_take (i := 1) (v := .int .i64 i) rfl (by kernel_rfl) (by kernel_rfl) (by kernel_rfl) (fun _ _ _ h => h) (Or.inl ⟨by rfl, by intro w hSw; go_simp⟩) hH ?_
      try simp only [Act.put, List.getElem_toArray, List.getElem_cons_succ, List.getElem_cons_zero, List.setIfInBounds_toArray, List.set_cons_zero, List.set_cons_succ]
      refine wpAnyH_take (i := 2) (v := .pointer (some ⟨g, i * 11, none⟩)) rfl (by kernel_rfl) (by kernel_rfl) (by kernel_rfl) (fun _ _ _ h => h) (Or.inl ⟨by rfl, by intro w hSw; go_simp⟩) hH ?_
      try simp only [Act.put, List.getElem_toArray, List.getElem_cons_succ, List.getElem_cons_zero, List.setIfInBounds_toArray, List.set_cons_zero, List.set_cons_succ]
      refine wpAnyH_take (i := 3) (v := .pointer (some ⟨g, i * 11, none⟩)) rfl (by kernel_rfl) (by kernel_rfl) (by kernel_rfl) (fun _ _ _ h => h) (Or.inl ⟨by rfl, by intro w hSw; go_simp⟩) hH ?_
      try simp only [Act.put, List.getElem_toArray, List.getElem_cons_succ, List.getElem_cons_zero, List.setIfInBounds_toArray, List.set_cons_zero, List.set_cons_succ]
      refine wpAnyH_take (i := 4) (v := .int .u32 (pcs i)) rfl (by kernel_rfl) (by kernel_rfl) (by kernel_rfl) (fun _ _ _ h => h) (Or.inl ⟨by rfl, by intro w hSw; have hc := (World.cell?_of_block (w := wr) (w' := w) (a := ⟨g, i * 11, none⟩) (by rw [hSw])).trans c0.out; go_simp⟩) hH ?_
      try simp only [Act.put, List.getElem_toArray, List.getElem_cons_succ, List.getElem_cons_zero, List.setIfInBounds_toArray, List.set_cons_zero, List.set_cons_succ]
      refine wpAnyH_take (i := 5) (v := .pointer (some ⟨W3.heap.size, 32, none⟩)) rfl (by kernel_rfl) (by kernel_rfl) (by kernel_rfl) (fun _ _ _ h => h) (Or.inl ⟨by rfl, by intro w hSw; go_simp⟩) hH ?_
      try simp only [Act.put, List.getElem_toArray, List.getElem_cons_succ, List.getElem_cons_zero, List.setIfInBounds_toArray, List.set_cons_zero, List.set_cons_succ]
      refine wpAnyH_take (i := 6) (v := .int .u32 (pcs i)) rfl (by kernel_rfl) (by kernel_rfl) (by kernel_rfl) (fun _ _ _ h => h) (Or.inl ⟨by rfl, by intro w hSw; have hc := (World.cell?_of_block (w := wr) (w' := w) (a := ⟨W3.heap.size, 32, none⟩) (by rw [hSw])).trans c32.out; go_simp⟩) hH ?_
      try simp only [Act.put, List.getElem_toArray, List.getElem_cons_succ, List.getElem_cons_zero, List.setIfInBounds_toArray, List.set_cons_zero, List.set_cons_succ]
      refine wpAnyH_take (i := 7) (v := .bool false) rfl (by kernel_rfl) (by kernel_rfl) (by kernel_rfl) (fun _ _ _ h => h) (Or.inl ⟨by rfl, by intro w hSw; go_simp⟩) hH ?_
      try simp only [Act.put, List.getElem_toArray, List.getElem_cons_succ, List.getElem_cons_zero, List.setIfInBounds_toArray, List.set_cons_zero, List.set_cons_succ]
      refine wpAnyH_take (i := 8) (v := .bool false) rfl (by kernel_rfl) (by kernel_rfl) (by kernel_rfl) (fun _ _ _ h => h) (Or.inl ⟨by rfl, by intro w hSw; go_simp⟩) hH ?_
      try simp only [Act.put, List.getElem_toArray, List.getElem_cons_succ, List.getElem_cons_zero, List.setIfInBounds_toArray, List.set_cons_zero, List.set_cons_succ]
      refine wpAnyH_take (i := 9) (v := .pointer (some ⟨W3.heap.size, 33, none⟩)) rfl (by kernel_rfl) (by kernel_rfl) (by kernel_rfl) (fun _ _ _ h => h) (Or.inl ⟨by rfl, by intro w hSw; go_simp⟩) hH ?_
      try simp only [Act.put, List.getElem_toArray, List.getElem_cons_succ, List.getElem_cons_zero, List.setIfInBounds_toArray, List.set_cons_zero, List.set_cons_succ]
      refine wpAnyH_take (i := 10) (v := .int .i64 0) rfl (by kernel_rfl) (by kernel_rfl) (by kernel_rfl) (fun _ _ _ h => h) (Or.inl ⟨by rfl, by intro w hSw; have hc := (World.cell?_of_block (w := wr) (w' := w) (a := ⟨W3.heap.size, 33, none⟩) (by rw [hSw])).trans c33.out; go_simp⟩) hH ?_
      try simp only [Act.put, List.getElem_toArray, List.getElem_cons_succ, List.getElem_cons_zero, List.setIfInBounds_toArray, List.set_cons_zero, List.set_cons_succ]
      refine wpAnyH_take (i := 11) (v := .bool false) rfl (by kernel_rfl) (by kernel_rfl) (by kernel_rfl) (fun _ _ _ h => h) (Or.inl ⟨by rfl, by intro w hSw; go_simp⟩) hH ?_
      try simp only [Act.put, List.getElem_toArray, List.getElem_cons_succ, List.getElem_cons_zero, List.setIfInBounds_toArray, List.set_cons_zero, List.set_cons_succ]
      refine wpAnyH_take (i := 12) (v := .bool false) rfl (by kernel_rfl) (by kernel_rfl) (by kernel_rfl) (fun _ _ _ h => h) (Or.inl ⟨by rfl, by intro w hSw; go_simp⟩) hH ?_
      try simp only [Act.put, List.getElem_toArray, List.getElem_cons_succ, List.getElem_cons_zero, List.setIfInBounds_toArray, List.set_cons_zero, List.set_cons_succ]
      refine wpAnyH_done (by kernel_rfl) ?_ _
      try simp only [Act.put, List.getElem_toArray, List.getElem_cons_succ, List.getElem_cons_zero, List.setIfInBounds_toArray, List.set_cons_zero, List.set_cons_succ]
      go_upto_region 11 with fail
      refine wp_region_held_drew (S := fun w' => ∀ b, b < W3.heap.size → w'.heap[b]? = w5.heap[b]?) (by kernel_rfl) old.out (fun hH => ?_)
      refine wpAnyH_take (i := 1) (v := .slice q n cp) rfl (by kernel_rfl) (by kernel_rfl) (by kernel_rfl) (fun _ _ _ h => h) (Or.inl ⟨by rfl, by intro w hSw; go_simp⟩) hH ?_
      try simp only [Act.put, List.getElem_toArray, List.getElem_cons_succ, List.getElem_cons_zero, List.setIfInBounds_toArray, List.set_cons_zero, List.set_cons_succ]
      refine wpAnyH_take (i := 2) (v := .slice (some ⟨g, 0, none⟩) m lc) rfl (by kernel_rfl) (by kernel_rfl) (by kernel_rfl) (fun _ _ _ h => h) (Or.inl ⟨by rfl, by intro w hSw; go_simp⟩) hH ?_
      try simp only [Act.put, List.getElem_toArray, List.getElem_cons_succ, List.getElem_cons_zero, List.setIfInBounds_toArray, List.set_cons_zero, List.set_cons_succ]
      refine wpAnyH_take (i := 3) (v := .int .i64 i) rfl (by kernel_rfl) (by kernel_rfl) (by kernel_rfl) (fun _ _ _ h => h) (Or.inl ⟨by rfl, by intro w hSw; go_simp⟩) hH ?_
      try simp only [Act.put, List.getElem_toArray, List.getElem_cons_succ, List.getElem_cons_zero, List.setIfInBounds_toArray, List.set_cons_zero, List.set_cons_succ]
      refine wpAnyH_take (i := 4) (v := .pointer (some ⟨g, i * 11, none⟩)) rfl (by kernel_rfl) (by kernel_rfl) (by kernel_rfl) (fun _ _ _ h => h) (Or.inl ⟨by rfl, by intro w hSw; go_simp⟩) hH ?_
      try simp only [Act.put, List.getElem_toArray, List.getElem_cons_succ, List.getElem_cons_zero, List.setIfInBounds_toArray, List.set_cons_zero, List.set_cons_succ]
      refine wpAnyH_take (i := 5) (v := .agg (C i)) rfl (by kernel_rfl) (by kernel_rfl) (by kernel_rfl) (fun _ _ _ h => h) (yieldsIf_load_midA (by rfl) 38 _ rfl g (i * 11) rfl (C i) _ (fun w' hSw j v hv => (World.cell?_of_block (w := w5) (a := ⟨g, i * 11 + j, none⟩) (hSw g (by omega))).trans (hrg.out i hlt j v hv)) Tryd.underlying38 rfl hC.out) hH ?_
      try simp only [Act.put, List.getElem_toArray, List.getElem_cons_succ, List.getElem_cons_zero, List.setIfInBounds_toArray, List.set_cons_zero, List.set_cons_succ]
      refine wpAnyH_ready (rs := [0]) (by kernel_rfl) (by simp) ?_
      refine AllReadyH.cons rfl (fun K hK => ?_) AllReadyH.nil
      rw [if_pos (by rfl)]
      try simp only [List.getElem_toArray, List.getElem_cons_succ, List.getElem_cons_zero]
      refine wp_load_row 34 _ rfl _ rfl 34 (H i) (0, 0) _ rY.out Tryd.underlying34 rfl hI.out ?_
      refine hK.out _ _ hH (fun hH => ?_)
      clear hK K
      try simp only [Act.put, List.getElem_toArray, List.getElem_cons_succ, List.getElem_cons_zero, List.setIfInBounds_toArray, List.set_cons_zero, List.set_cons_succ]
      refine wpAnyH_ready (rs := [6]) (by kernel_rfl) (by simp) ?_
      refine AllReadyH.cons rfl (fun K hK => ?_) AllReadyH.nil
      go_simp
      refine ck.mono ?_
      rintro e w6 ⟨⟨q', cp', rfl, hq', hO'⟩, hk6⟩
      have s6 : wr.heap.size ≤ w6.heap.size := hk6.size
      have hk6 : Hid (Below wr.heap.size wr w6) := ((Below.refl _ wr).drew.drew).trans hk6
      have hq' : Hid (q' = none → cp' = 0) := hq'
      have hO' : Hid (Own w6 wr.heap.size q' n (F (i + 1))) := hO'
      clear ck
      go_wp2_with fail
      have e6 : Hid (∀ b, b < W3.heap.size → w6.heap[b]? = w5.heap[b]?) := fun b hb => (hk6.out.block b (by omega)).trans (old.out b hb)
      refine hK.out _ _ e6.out (fun hH => ?_)
      clear hK K
      try simp only [Act.put, List.getElem_toArray, List.getElem_cons_succ, List.getElem_cons_zero, List.setIfInBounds_toArray, List.set_cons_zero, List.set_cons_succ]
      refine wpAnyH_take (i := 7) (v := .tuple #[.agg (H (i + 1)), .slice q' n cp']) rfl (by kernel_rfl) (by kernel_rfl) (by kernel_rfl) (fun _ _ _ h => h) (Or.inl ⟨by rfl, by intro w hSw; go_simp⟩) hH ?_
      try simp only [Act.put, List.getElem_toArray, List.getElem_cons_succ, List.getElem_cons_zero, List.setIfInBounds_toArray, List.set_cons_zero, List.set_cons_succ]
      refine wpAnyH_take (i := 8) (v := .agg (H (i + 1))) rfl (by kernel_rfl) (by kernel_rfl) (by kernel_rfl) (fun _ _ _ h => h) (Or.inl ⟨by rfl, by intro w hSw; go_simp⟩) hH ?_
      try simp only [Act.put, List.getElem_toArray, List.getElem_cons_succ, List.getElem_cons_zero, List.setIfInBounds_toArray, List.set_cons_zero, List.set_cons_succ]
      refine wpAnyH_take (i := 9) (v := .slice q' n cp') rfl (by kernel_rfl) (by kernel_rfl) (by kernel_rfl) (fun _ _ _ h => h) (Or.inl ⟨by rfl, by intro w hSw; go_simp⟩) hH ?_
      try simp only [Act.put, List.getElem_toArray, List.getElem_cons_succ, List.getElem_cons_zero, List.setIfInBounds_toArray, List.set_cons_zero, List.set_cons_succ]
      refine wpAnyH_ready (rs := [10]) (by kernel_rfl) (by simp) ?_
      refine AllReadyH.cons rfl (fun K hK => ?_) AllReadyH.nil
      rw [if_pos (by rfl)]
      try simp only [List.getElem_toArray, List.getElem_cons_succ, List.getElem_cons_zero]
      have rY6 : Hid (w6.heap[W3.heap.size]? = some (.cells (H i) 34 (0, 0))) := (hk6.out.block _ (by omega)).trans rY.out
      refine wp_store_row 34 _ _ rfl _ _ rfl rfl 34 (H i) rY6.out hI1.out ((fam.out.hH i).1.trans (fam.out.hH (i + 1)).1.symm) (fam.out.hH (i + 1)).2 ?_
      refine hK.out _ _ (fun b hb => (setRow_other _ _ _ _ (by omega)).trans (e6.out b hb)) (fun hH => ?_)
      clear hK K
      try simp only [Act.put, List.getElem_toArray, List.getElem_cons_succ, List.getElem_cons_zero, List.setIfInBounds_toArray, List.set_cons_zero, List.set_cons_succ]
      refine wpAnyH_take (i := 11) (v := .slice q' n cp') rfl (by kernel_rfl) (by kernel_rfl) (by kernel_rfl) (fun _ _ _ h => h) (Or.inl ⟨by rfl, by intro w hSw; go_simp⟩) hH ?_
      try simp only [Act.put, List.getElem_toArray, List.getElem_cons_succ, List.getElem_cons_zero, List.setIfInBounds_toArray, List.set_cons_zero, List.set_cons_succ]
      refine wpAnyH_done (by kernel_rfl) ?_ _
      try simp only [Act.put, List.getElem_toArray, List.getElem_cons_succ, List.getElem_cons_zero, List.setIfInBounds_toArray, List.set_cons_zero, List.set_cons_succ]
      obtain ⟨W7, hW7⟩ : ∃ W7 : World, Hid (W7 = w6.setRow W3.heap.size (H (i + 1))) := ⟨_, rfl⟩
      rw [← hW7.out]
      go_wp2_with fail
      go_roundw
      case rel =>
        refine ⟨i + 1, q', cp', by omega, by go_num, rfl, hq'.out, ?_, ?_, ?_, ?_, ?_⟩
        · refine hO'.out.move (by omega) (by rw [hW7.out]; simp) (fun b hb _ => ?_)
          rw [hW7.out]
          exact setRow_other _ _ _ _ (by omega)
        · intro b hb
          rw [hW7.out]
          exact (setRow_other _ _ _ _ (by omega)).trans (e6.out b hb)
        · rw [hW7.out]
          exact setRow_heap _ _ _ _ _ _ rY6.out
        · rw [hW7.out]
          exact below_row (hbw.out.trans (hk6.out.mono (by omega))) (by omega) _
        · rw [hW7.out]
          simp
          omega
      case measure => simp [intOf]; omega
    · obtain rfl : i = m := by omega
      have RX : Hid (wr.heap[w2.heap.size]? = some (.cells (H i) 34 (0, 0))) := (old.out _ (by omega)).trans RX.out
      have k33 := (cell_of_row wr w2.heap.size 33 _ _ _ RX.out).trans (fam.out.h33 i)
      have hM9 : Mem wr p' n (F i) := hM.out.move (fun h0 g o e => old.out g (by have := hpb.out h0 g o e; omega))
      have CY := Bytes_same p' q n cap cp ((List.range n).map (F i)) (by simp) wr hM9.bytes hO.out.mem.bytes
      have hle : decide ((i : Int) ≤ (k : Int)) = true := decide_eq_true (by omega)
      clear CK hM hM9
      go_upto_region 12 with fail
      rcases hst.out.end_ with e | e
      · have heq : (((i : Nat) : Int) == ((k : Nat) : Int)) = true := by simp [e]
        clear k33 e
        go_wp2_with (first | (refine wpList_load_row rfl 34 _ rfl _ rfl 34 (H i) (0, 0) _ RX.out Tryd.underlying34 rfl hI.out ?_) | (refine wpList_load_row rfl 34 _ rfl _ rfl 34 (H i) (0, 0) _ rY.out Tryd.underlying34 rfl hI.out ?_))
        refine CY.mono ?_
        rintro e w' ⟨rfl, rfl⟩
        go_wp2_with fail
        go_ret
        exact ⟨rfl, hbw.out⟩
      · have hz : (st i != 0) = true := by simpa using e
        by_cases e2 : i = k
        · have heq : (((i : Nat) : Int) == ((k : Nat) : Int)) = true := by simp [e2]
          clear k33 e2
          go_wp2_with (first | (refine wpList_load_row rfl 34 _ rfl _ rfl 34 (H i) (0, 0) _ RX.out Tryd.underlying34 rfl hI.out ?_) | (refine wpList_load_row rfl 34 _ rfl _ rfl 34 (H i) (0, 0) _ rY.out Tryd.underlying34 rfl hI.out ?_))
          refine CY.mono ?_
          rintro e w' ⟨rfl, rfl⟩
          go_wp2_with fail
          go_ret
          exact ⟨rfl, hbw.out⟩
        · have heq : (((i : Nat) : Int) == ((k : Nat) : Int)) = false := beq_eq_false_iff_ne.2 (by omega)
          clear e2
          go_wp2_with (first | (refine wpList_load_row rfl 34 _ rfl _ rfl 34 (H i) (0, 0) _ RX.out Tryd.underlying34 rfl hI.out ?_) | (refine wpList_load_row rfl 34 _ rfl _ rfl 34 (H i) (0, 0) _ rY.out Tryd.underlying34 rfl hI.out ?_))
          refine CY.mono ?_
          rintro e w' ⟨rfl, rfl⟩
          go_wp2_with fail
          go_ret
          exact ⟨rfl, hbw.out⟩
end Go.Proofs.YtpiohehijkpghaaDoor
