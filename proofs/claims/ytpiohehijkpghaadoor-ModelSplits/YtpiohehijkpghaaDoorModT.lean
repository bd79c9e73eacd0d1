/- The law that two runs, one behind the other, do what one does, walked. -/
import Derived.Test.YtpiohehijkpghaaDoorModG
import Derived.Laws.AppendOwnNone
namespace Go.Proofs.YtpiohehijkpghaaDoor
open Go.RowKit
open Hy
set_option linter.unusedVariables false
set_option linter.unusedSimpArgs false

/-- An append of a list of commits onto one of the call's own. -/
theorem wpList_append_coms {ops : Array Oper} {rest : List Oper} {o : Oper} {a : Act} {w : World} {Q : Exit → Act → World → Prop} (hgd : o.guard = none) (s x : Operand)
    (ho : o.op = .call { callee := .builtin .append, args := #[s, x], argTypes := #[48, 48] }) (B : Nat) (hB : B ≤ w.heap.size) (v : Value) (m1 : Nat) (xs : List Value) (hs : a.eval s = v) (hown : w.ownsRow B 38 11 v m1 xs) (p : Option Addr) (m2 c b2 : Nat) (ys : List Value) (hx : a.eval x = .slice p m2 c) (hy : w.ownsRow b2 38 11 (.slice p m2 c) m2 ys) (h1 : ∀ u ∈ ys, u.oneCell' = true)
    (hb : m1 + m2 ≤ 4000) (h : ∀ lp lc w', w'.ownsRow B 38 11 (.slice lp (m1 + m2) lc) (m1 + m2) (xs ++ ys) → (∀ b, b < w.heap.size → v.ownBlock ≠ some b → w'.heap[b]? = w.heap[b]?) → Below B w w' → wpList Tryd.prog ops Q rest (a.put o.dst (.slice lp (m1 + m2) lc)) w') : wpList Tryd.prog ops Q (o :: rest) a w := by
  obtain ⟨i0, hi, hz0, hz1, hz2⟩ := info_parts info_com
  have bel : ∀ w' : World, w.grownBy w' v.ownBlock → Below B w w' := fun w' hg => (Below.refl _ _).grown hg hB (fun k hk => (hown.lt k hk).1)
  rcases hy.2 with ⟨e, rfl⟩ | ⟨g, cap, cur, e, _⟩
  · have hys : ys = [] := List.eq_nil_of_length_eq_zero (by have := hy.1; omega)
    subst hys
    simp at e
    obtain ⟨rfl, rfl⟩ := e
    obtain ⟨lp, lc, rfl⟩ := owns_slice hown
    exact wpList_append_own_none hgd s x 48 ho B 38 i0 11 Tryd.underlying48 hi _ m1 xs hs hown hx (h lp lc w (by simpa using hown) (fun _ _ _ => rfl) (Below.refl _ _))
  · simp at e
    obtain ⟨rfl, rfl⟩ := e
    refine wpList_append_own _ hgd s x 48 ho B 38 i0 _ 11 64 Tryd.underlying48 hi hz0 hz1 hz2 rfl (by decide) v m1 xs hs hown ⟨g, 0, none⟩ m2 c ys hx hy.1 (hy.cells (g := g) rfl) h1 (by unfold maxLen; omega) (by omega) hB ?_
    intro v' w' ho' hg _
    obtain ⟨lp, lc, rfl⟩ := owns_slice ho'
    exact h lp lc w' ho' (fun b hb hn => hg.block b hb (fun e => hn e.symm)) (bel w' hg)

theorem coms_ones (C : Nat → Array Value) (hC : ∀ i, Ones (C i)) : ∀ m, ∀ u ∈ coms C m, u.oneCell' = true
  | 0, u, h => by cases h
  | m + 1, u, h => by
    rcases List.mem_append.1 h with h | h
    · exact coms_ones C hC m u h
    · exact (hC m).mem u h
end Go.Proofs.YtpiohehijkpghaaDoor
namespace Go.Proofs.YtpiohehijkpghaaDoor
open Go.RowKit
open Hy
set_option linter.unusedVariables false
set_option linter.unusedSimpArgs false

set_option maxRecDepth 20000 in
set_option maxHeartbeats 2000000 in
theorem splits_a0 (H : Array Value) (p : Option Addr) (n c : Nat) (a b : Int) (w : World) (h0 : decide (a < 0) = true) :
    Calls Tryd.prog 10 #[.agg H, .slice p n c, .int .i64 a, .int .i64 b] w fun e w' => e = .returned (.bool true) ∧ Below w.heap.size w w' := by
  go_enter Tryd.func10, Tryd.ntmps10
  go_wp2_with fail
  go_ret
  exact ⟨rfl, (Below.refl _ _).alloc (Nat.le_refl _) _⟩

set_option maxRecDepth 20000 in
set_option maxHeartbeats 2000000 in
theorem splits_b0 (H : Array Value) (p : Option Addr) (n c : Nat) (a b : Int) (w : World) (h0 : decide (a < 0) = false) (h1 : decide (b < 0) = true) :
    Calls Tryd.prog 10 #[.agg H, .slice p n c, .int .i64 a, .int .i64 b] w fun e w' => e = .returned (.bool true) ∧ Below w.heap.size w w' := by
  go_enter Tryd.func10, Tryd.ntmps10
  go_wp2_with fail
  go_ret
  exact ⟨rfl, (Below.refl _ _).alloc (Nat.le_refl _) _⟩

set_option maxRecDepth 20000 in
set_option maxHeartbeats 2000000 in
theorem splits_a1 (H : Array Value) (p : Option Addr) (n c : Nat) (a b : Int) (w : World) (h0 : decide (a < 0) = false) (h1 : decide (b < 0) = false) (h2 : decide (1000 < a) = true) :
    Calls Tryd.prog 10 #[.agg H, .slice p n c, .int .i64 a, .int .i64 b] w fun e w' => e = .returned (.bool true) ∧ Below w.heap.size w w' := by
  go_enter Tryd.func10, Tryd.ntmps10
  go_wp2_with fail
  go_ret
  exact ⟨rfl, (Below.refl _ _).alloc (Nat.le_refl _) _⟩

set_option maxRecDepth 20000 in
set_option maxHeartbeats 2000000 in
theorem splits_b1 (H : Array Value) (p : Option Addr) (n c : Nat) (a b : Int) (w : World) (h0 : decide (a < 0) = false) (h1 : decide (b < 0) = false) (h2 : decide (1000 < a) = false) (h3 : decide (1000 < b) = true) :
    Calls Tryd.prog 10 #[.agg H, .slice p n c, .int .i64 a, .int .i64 b] w fun e w' => e = .returned (.bool true) ∧ Below w.heap.size w w' := by
  go_enter Tryd.func10, Tryd.ntmps10
  go_wp2_with fail
  go_ret
  exact ⟨rfl, (Below.refl _ _).alloc (Nat.le_refl _) _⟩

set_option maxRecDepth 20000 in
set_option maxHeartbeats 4000000 in
theorem splits_err (H : Array Value) (p : Option Addr) (n c a b : Nat) (ha : a ≤ 1000) (hb : b ≤ 1000) (w : World) (hI : Hid (H.size = 35))
    (CR : ∀ K : Int, ∀ W, Calls Tryd.prog 21 #[.agg H, .slice p n c, .int .i64 K] W fun e w' => e = .returned (.tuple #[.slice none 0 0, hv (fun _ => 0) 0 0 0, .slice none 0 0, .int .i64 2]) ∧ Below W.heap.size W w') :
    Calls Tryd.prog 10 #[.agg H, .slice p n c, .int .i64 a, .int .i64 b] w fun e w' => e = .returned (.bool true) ∧ Below w.heap.size w w' := by
  have r0 : decide ((a : Int) < 0) = false := decide_eq_false (by omega)
  have r1 : decide ((b : Int) < 0) = false := decide_eq_false (by omega)
  have r2 : decide (1000 < (a : Int)) = false := decide_eq_false (by omega)
  have r3 : decide (1000 < (b : Int)) = false := decide_eq_false (by omega)
  go_enter Tryd.func10, Tryd.ntmps10
  go_wp2_with (refine wpList_load_row rfl 34 _ rfl _ rfl 34 _ (0, 0) _ (heap_alloc_new _ _) Tryd.underlying34 rfl (info_hart hI.out) ?_)
  refine (CR _ _).mono ?_
  rintro e w2 ⟨rfl, hk2⟩
  have hs2 : w.heap.size + 1 ≤ w2.heap.size := by have := hk2.size; simpa using this
  have R34 : Hid (w2.heap[w.heap.size]? = some (.cells H 34 (0, 0))) := (hk2.block _ (by simp)).trans (heap_alloc_new _ _)
  have hb2 : Hid (Below w.heap.size w w2) := ((Below.refl _ _).alloc (Nat.le_refl _) _).trans (hk2.mono (by simp))
  clear hk2
  go_upto_region 4 with (refine wpList_store_row rfl 34 _ _ rfl _ _ rfl rfl 34 (hcs (fun _ => 0) 0 0 0) (heap_alloc_new _ _) size_hart rfl ones_zero ?_)
  try simp only [Act.put]
  rw [World.setRow_alloc_new]
  obtain ⟨W3, hW3⟩ : ∃ W3 : World, Hid (W3 = w2.alloc (.cells (hcs (fun _ => 0) 0 0 0) 34)) := ⟨_, rfl⟩
  rw [← hW3.out]
  have s3 : w2.heap.size + 1 = W3.heap.size := by rw [hW3.out]; simp
  have R34 : Hid (W3.heap[w.heap.size]? = some (.cells H 34 (0, 0))) := by rw [hW3.out]; exact (Below.heap_alloc _ _ _ (by omega)).trans R34.out
  have hb3 : Hid (Below w.heap.size w W3) := by rw [hW3.out]; exact hb2.out.alloc (by omega) _
  clear hW3 hb2
  go_wp2_with (refine wpList_load_row rfl 34 _ rfl _ rfl 34 _ (0, 0) _ R34.out Tryd.underlying34 rfl (info_hart hI.out) ?_)
  refine (CR _ _).mono ?_
  rintro e w4 ⟨rfl, hk4⟩
  have s4 : W3.heap.size ≤ w4.heap.size := hk4.size
  have hb4 : Hid (Below w.heap.size w w4) := hb3.out.trans (hk4.mono (by omega))
  clear hk4 CR hb3 R34
  go_upto_region 5 with (refine wpList_store_row rfl 34 _ _ rfl _ _ rfl rfl 34 (hcs (fun _ => 0) 0 0 0) (heap_alloc_new _ _) size_hart rfl ones_zero ?_)
  try simp only [Act.put]
  rw [World.setRow_alloc_new]
  obtain ⟨W5, hW5⟩ : ∃ W5 : World, Hid (W5 = w4.alloc (.cells (hcs (fun _ => 0) 0 0 0) 34)) := ⟨_, rfl⟩
  rw [← hW5.out]
  have hb5 : Hid (Below w.heap.size w W5) := by rw [hW5.out]; exact hb4.out.alloc (by omega) _
  clear hW5 hb4
  go_wp2_with fail
  go_ret
  exact ⟨rfl, hb5.out⟩

set_option maxRecDepth 20000 in
set_option maxHeartbeats 8000000 in
theorem splits_ok (H X1 X2 : Array Value) (L1 L2 L : List Value) (f1 f2 : Nat → Int) (st : Int) (p : Option Addr) (n c a b m1 m2 : Nat) (ha : a ≤ 1000) (hb : b ≤ 1000) (hm1 : m1 ≤ a) (hm2 : m2 ≤ b) (w : World) (hI : Hid (H.size = 35)) (hX1 : Hid (X1.size = 35 ∧ Ones X1)) (hX2 : Hid (X2.size = 35 ∧ Ones X2)) (h33 : H[33]? = some (.int .i64 st)) (hL : Hid (L1 ++ L2 = L)) (o1 : Hid (∀ u ∈ L1, u.oneCell' = true)) (o2 : Hid (∀ u ∈ L2, u.oneCell' = true)) (hlast : a = 0 ∨ st ≠ 0 ∨ 0 < m1)
    (q34 : ∀ w, (binOp .eql 34 (.agg X2) (.agg X2)).run Tryd.prog w = .ok (.bool true) w)
    (CR1 : ∀ W, Below w.heap.size w W → Calls Tryd.prog 21 #[.agg H, .slice p n c, .int .i64 a] W fun e w' => (∃ lp lc p' cap, e = .returned (.tuple #[.slice lp m1 lc, .agg X1, .slice p' n cap, .int .i64 0]) ∧ w'.ownsRow W.heap.size 38 11 (.slice lp m1 lc) m1 L1 ∧ Mem w' p' n f1) ∧ Below W.heap.size W w')
    (CR2 : ∀ W, Below w.heap.size w W → Calls Tryd.prog 21 #[.agg H, .slice p n c, .int .i64 ((a : Int) + (b : Int))] W fun e w' => (∃ lp lc p' cap, e = .returned (.tuple #[.slice lp (m1 + m2) lc, .agg X2, .slice p' n cap, .int .i64 0]) ∧ w'.ownsRow W.heap.size 38 11 (.slice lp (m1 + m2) lc) (m1 + m2) L ∧ Mem w' p' n f2) ∧ Below W.heap.size W w')
    (CR3 : ∀ W p c, Below w.heap.size w W → Mem W p n f1 → Calls Tryd.prog 21 #[.agg X1, .slice p n c, .int .i64 b] W fun e w' => (∃ lp lc p' cap, e = .returned (.tuple #[.slice lp m2 lc, .agg X2, .slice p' n cap, .int .i64 0]) ∧ w'.ownsRow W.heap.size 38 11 (.slice lp m2 lc) m2 L2 ∧ Mem w' p' n f2) ∧ Below W.heap.size W w')
    (CS : ∀ W b1 b2 p1 c1 p2 c2, W.ownsRow b1 38 11 (.slice p1 (m1 + m2) c1) (m1 + m2) L → W.ownsRow b2 38 11 (.slice p2 (m1 + m2) c2) (m1 + m2) L → Calls Tryd.prog 24 #[.slice p1 (m1 + m2 : Nat) c1, .slice p2 (m1 + m2 : Nat) c2] W fun e w' => e = .returned (.bool true) ∧ Below W.heap.size W w') :
    Calls Tryd.prog 10 #[.agg H, .slice p n c, .int .i64 a, .int .i64 b] w fun e w' => e = .returned (.bool true) ∧ Below w.heap.size w w' := by
  have r0 : decide ((a : Int) < 0) = false := decide_eq_false (by omega)
  have r1 : decide ((b : Int) < 0) = false := decide_eq_false (by omega)
  have r2 : decide (1000 < (a : Int)) = false := decide_eq_false (by omega)
  have r3 : decide (1000 < (b : Int)) = false := decide_eq_false (by omega)
  have X1I : Hid ((Tryd.prog.info? 34).map (·.size) = some X1.size) := info_hart hX1.out.1
  have X2I : Hid ((Tryd.prog.info? 34).map (·.size) = some X2.size) := info_hart hX2.out.1
  go_enter Tryd.func10, Tryd.ntmps10
  go_wp2_with (refine wpList_load_row rfl 34 _ rfl _ rfl 34 _ (0, 0) _ (heap_alloc_new _ _) Tryd.underlying34 rfl (info_hart hI.out) ?_)
  refine (CR1 _ ((Below.refl _ _).alloc (Nat.le_refl _) _)).mono ?_
  rintro e w2 ⟨⟨lp1, lc1, p1, cap1, rfl, hw1, hM1⟩, hk2⟩
  have hs2 : w.heap.size + 1 ≤ w2.heap.size := by have := hk2.size; simpa using this
  have R34 : Hid (w2.heap[w.heap.size]? = some (.cells H 34 (0, 0))) := (hk2.block _ (by simp)).trans (heap_alloc_new _ _)
  have hb2 : Hid (Below w.heap.size w w2) := ((Below.refl _ _).alloc (Nat.le_refl _) _).trans (hk2.mono (by simp))
  have hw1 : Hid (w2.ownsRow (w.heap.size + 1) 38 11 (.slice lp1 m1 lc1) m1 L1) := by have h := hw1; simp at h; exact h
  have hM1 : Hid (Mem w2 p1 n f1) := hM1
  clear hk2 CR1
  go_upto_region 4 with (refine wpList_store_row rfl 34 _ _ rfl _ _ rfl rfl 34 (hcs (fun _ => 0) 0 0 0) (heap_alloc_new _ _) X1I.out (size_as hX1.out.1) hX1.out.2 ?_)
  try simp only [Act.put]
  rw [World.setRow_alloc_new]
  obtain ⟨W3, hW3⟩ : ∃ W3 : World, Hid (W3 = w2.alloc (.cells X1 34)) := ⟨_, rfl⟩
  rw [← hW3.out]
  have s3 : w2.heap.size + 1 = W3.heap.size := by rw [hW3.out]; simp
  have R34 : Hid (W3.heap[w.heap.size]? = some (.cells H 34 (0, 0))) := by rw [hW3.out]; exact (Below.heap_alloc _ _ _ (by omega)).trans R34.out
  have RX1 : Hid (W3.heap[w2.heap.size]? = some (.cells X1 34 (0, 0))) := by rw [hW3.out]; exact heap_alloc_new _ _
  have hb3 : Hid (Below w.heap.size w W3) := by rw [hW3.out]; exact hb2.out.alloc (by omega) _
  have hw1 : Hid (W3.ownsRow (w.heap.size + 1) 38 11 (.slice lp1 m1 lc1) m1 L1) := by rw [hW3.out]; exact hw1.out.alloc _
  have hM1 : Hid (Mem W3 p1 n f1) := by rw [hW3.out]; exact hM1.out.below ((Below.refl _ _).alloc (Nat.le_refl _) _)
  clear hW3 hb2
  have wab : Hid (wrap64 ((a : Int) + (b : Int)) = (a : Int) + (b : Int)) := by show _ = _; unfold wrap64; omega
  go_wp2_with (refine wpList_load_row rfl 34 _ rfl _ rfl 34 _ (0, 0) _ R34.out Tryd.underlying34 rfl (info_hart hI.out) ?_)
  refine (CR2 _ hb3.out).mono ?_
  rintro e w4 ⟨⟨lp2, lc2, p2, cap2, rfl, hw2, hM2⟩, hk4⟩
  have s4 : W3.heap.size ≤ w4.heap.size := hk4.size
  have R34 : Hid (w4.heap[w.heap.size]? = some (.cells H 34 (0, 0))) := (hk4.block _ (by omega)).trans R34.out
  have RX1 : Hid (w4.heap[w2.heap.size]? = some (.cells X1 34 (0, 0))) := (hk4.block _ (by omega)).trans RX1.out
  have hb4 : Hid (Below w.heap.size w w4) := hb3.out.trans (hk4.mono (by omega))
  have hw1 : Hid (w4.ownsRow (w.heap.size + 1) 38 11 (.slice lp1 m1 lc1) m1 L1) := owns_move hw1.out (fun g hg => hk4.block g (hw1.out.lt g hg).2)
  have hM1 : Hid (Mem w4 p1 n f1) := hM1.out.below hk4
  have hw2 : Hid (w4.ownsRow W3.heap.size 38 11 (.slice lp2 (m1 + m2) lc2) (m1 + m2) L) := hw2
  have hM2 : Hid (Mem w4 p2 n f2) := hM2
  clear hk4 CR2 hb3
  go_upto_region 5 with (refine wpList_store_row rfl 34 _ _ rfl _ _ rfl rfl 34 (hcs (fun _ => 0) 0 0 0) (heap_alloc_new _ _) X2I.out (size_as hX2.out.1) hX2.out.2 ?_)
  try simp only [Act.put]
  rw [World.setRow_alloc_new]
  obtain ⟨W5, hW5⟩ : ∃ W5 : World, Hid (W5 = w4.alloc (.cells X2 34)) := ⟨_, rfl⟩
  rw [← hW5.out]
  have s5 : w4.heap.size + 1 = W5.heap.size := by rw [hW5.out]; simp
  have k5 : Hid (Below w4.heap.size w4 W5) := by rw [hW5.out]; exact (Below.refl _ _).alloc (Nat.le_refl _) _
  have R34 : Hid (W5.heap[w.heap.size]? = some (.cells H 34 (0, 0))) := (k5.out.block _ (by omega)).trans R34.out
  have RX1 : Hid (W5.heap[w2.heap.size]? = some (.cells X1 34 (0, 0))) := (k5.out.block _ (by omega)).trans RX1.out
  have RX2 : Hid (W5.heap[w4.heap.size]? = some (.cells X2 34 (0, 0))) := by rw [hW5.out]; exact heap_alloc_new _ _
  have hb5 : Hid (Below w.heap.size w W5) := hb4.out.trans (k5.out.mono (by omega))
  have hw1 : Hid (W5.ownsRow (w.heap.size + 1) 38 11 (.slice lp1 m1 lc1) m1 L1) := owns_move hw1.out (fun g hg => k5.out.block g (hw1.out.lt g hg).2)
  have hw2 : Hid (W5.ownsRow W3.heap.size 38 11 (.slice lp2 (m1 + m2) lc2) (m1 + m2) L) := owns_move hw2.out (fun g hg => k5.out.block g (hw2.out.lt g hg).2)
  have hM1 : Hid (Mem W5 p1 n f1) := hM1.out.below k5.out
  have hM2 : Hid (Mem W5 p2 n f2) := hM2.out.below k5.out
  clear hW5 hb4 k5
  go_upto_region 7 with fail
  go_wp2_with (refine wpList_load_row rfl 34 _ rfl _ rfl 34 _ (0, 0) _ RX1.out Tryd.underlying34 rfl X1I.out ?_)
  refine (CR3 _ _ _ hb5.out hM1.out).mono ?_
  rintro e w6 ⟨⟨lp3, lc3, p3, cap3, rfl, hw3, hM3⟩, hk6⟩
  have s6 : W5.heap.size ≤ w6.heap.size := hk6.size
  have R34 : Hid (w6.heap[w.heap.size]? = some (.cells H 34 (0, 0))) := (hk6.block _ (by omega)).trans R34.out
  have RX2 : Hid (w6.heap[w4.heap.size]? = some (.cells X2 34 (0, 0))) := (hk6.block _ (by omega)).trans RX2.out
  have hb6 : Hid (Below w.heap.size w w6) := hb5.out.trans (hk6.mono (by omega))
  have hw1 : Hid (w6.ownsRow (w.heap.size + 1) 38 11 (.slice lp1 m1 lc1) m1 L1) := owns_move hw1.out (fun g hg => hk6.block g (hw1.out.lt g hg).2)
  have hw2 : Hid (w6.ownsRow W3.heap.size 38 11 (.slice lp2 (m1 + m2) lc2) (m1 + m2) L) := owns_move hw2.out (fun g hg => hk6.block g (hw2.out.lt g hg).2)
  have hw3 : Hid (w6.ownsRow W5.heap.size 38 11 (.slice lp3 m2 lc3) m2 L2) := hw3
  have hM2 : Hid (Mem w6 p2 n f2) := hM2.out.below hk6
  have hM3 : Hid (Mem w6 p3 n f2) := hM3
  clear hk6 CR3 hb5 hM1 RX1
  go_upto_region 8 with (refine wpList_store_row rfl 34 _ _ rfl _ _ rfl rfl 34 (hcs (fun _ => 0) 0 0 0) (heap_alloc_new _ _) X2I.out (size_as hX2.out.1) hX2.out.2 ?_)
  try simp only [Act.put]
  rw [World.setRow_alloc_new]
  obtain ⟨W7, hW7⟩ : ∃ W7 : World, Hid (W7 = w6.alloc (.cells X2 34)) := ⟨_, rfl⟩
  rw [← hW7.out]
  have s7 : w6.heap.size + 1 = W7.heap.size := by rw [hW7.out]; simp
  have k7 : Hid (Below w6.heap.size w6 W7) := by rw [hW7.out]; exact (Below.refl _ _).alloc (Nat.le_refl _) _
  have R34 : Hid (W7.heap[w.heap.size]? = some (.cells H 34 (0, 0))) := (k7.out.block _ (by omega)).trans R34.out
  have RX2 : Hid (W7.heap[w4.heap.size]? = some (.cells X2 34 (0, 0))) := (k7.out.block _ (by omega)).trans RX2.out
  have RX3 : Hid (W7.heap[w6.heap.size]? = some (.cells X2 34 (0, 0))) := by rw [hW7.out]; exact heap_alloc_new _ _
  have hb7 : Hid (Below w.heap.size w W7) := hb6.out.trans (k7.out.mono (by omega))
  have hw1 : Hid (W7.ownsRow (w.heap.size + 1) 38 11 (.slice lp1 m1 lc1) m1 L1) := owns_move hw1.out (fun g hg => k7.out.block g (hw1.out.lt g hg).2)
  have hw2 : Hid (W7.ownsRow W3.heap.size 38 11 (.slice lp2 (m1 + m2) lc2) (m1 + m2) L) := owns_move hw2.out (fun g hg => k7.out.block g (hw2.out.lt g hg).2)
  have hw3 : Hid (W7.ownsRow W5.heap.size 38 11 (.slice lp3 m2 lc3) m2 L2) := owns_move hw3.out (fun g hg => k7.out.block g (hw3.out.lt g hg).2)
  have hM2 : Hid (Mem W7 p2 n f2) := hM2.out.below k7.out
  have hM3 : Hid (Mem W7 p3 n f2) := hM3.out.below k7.out
  clear hW7 hb6 k7
  go_wp2_with (at_builtin; refine wpList_append_coms rfl (.tmp 82) (.tmp 83) rfl W7.heap.size (by simp) _ 0 [] rfl (World.ownsRow_made W7 #[] 0 (Nat.le_refl _) (Nat.zero_le _) rfl) lp1 m1 lc1 _ L1 rfl (hw1.out.alloc _) o1.out (by omega) ?_)
  intro lpa lca w8 hwa ga hk8
  try simp only [Nat.zero_add, List.nil_append] at hwa ⊢
  have hk8 : Hid (Below W7.heap.size W7 w8) := ((Below.refl _ _).alloc (Nat.le_refl _) _).trans hk8
  have hwa : Hid (w8.ownsRow W7.heap.size 38 11 (.slice lpa m1 lca) m1 L1) := hwa
  have s8 : W7.heap.size ≤ w8.heap.size := hk8.out.size
  have hw3 : Hid (w8.ownsRow W5.heap.size 38 11 (.slice lp3 m2 lc3) m2 L2) := owns_move hw3.out (fun g hg => hk8.out.block g (hw3.out.lt g hg).2)
  clear ga hw1
  go_wp2_with (at_builtin; refine wpList_append_coms rfl (.tmp 84) (.tmp 85) rfl W7.heap.size s8 _ m1 L1 rfl hwa.out lp3 m2 lc3 _ L2 rfl hw3.out o2.out (by omega) ?_)
  intro lpb lcb w9 hwb gb hk9
  have hk9 : Hid (Below W7.heap.size W7 w9) := hk8.out.trans hk9
  have s9 : W7.heap.size ≤ w9.heap.size := hk9.out.size
  have hb9 : Hid (Below w.heap.size w w9) := hb7.out.trans (hk9.out.mono (by omega))
  have cs := CS w9 _ _ lpb lcb lp2 lc2 (by rw [← hL.out]; exact hwb) (owns_move hw2.out (fun g hg => hk9.out.block g (hw2.out.lt g hg).2))
  have R34 : Hid (w9.heap[w.heap.size]? = some (.cells H 34 (0, 0))) := (hk9.out.block _ (by omega)).trans R34.out
  have RX2 : Hid (w9.heap[w4.heap.size]? = some (.cells X2 34 (0, 0))) := (hk9.out.block _ (by omega)).trans RX2.out
  have RX3 : Hid (w9.heap[w6.heap.size]? = some (.cells X2 34 (0, 0))) := (hk9.out.block _ (by omega)).trans RX3.out
  have hM2 : Hid (Mem w9 p2 n f2) := hM2.out.below hk9.out
  have hM3 : Hid (Mem w9 p3 n f2) := hM3.out.below hk9.out
  clear gb hwb hwa hk8 hk9 hw2 hw3 hb7 CS
  go_upto_region 9 with fail
  go_wp2_with fail
  refine cs.mono ?_
  rintro e w10 ⟨rfl, hk10⟩
  have s10 : w9.heap.size ≤ w10.heap.size := hk10.size
  have R34 : Hid (w10.heap[w.heap.size]? = some (.cells H 34 (0, 0))) := (hk10.block _ (by omega)).trans R34.out
  have RX2 : Hid (w10.heap[w4.heap.size]? = some (.cells X2 34 (0, 0))) := (hk10.block _ (by omega)).trans RX2.out
  have RX3 : Hid (w10.heap[w6.heap.size]? = some (.cells X2 34 (0, 0))) := (hk10.block _ (by omega)).trans RX3.out
  have hb10 : Hid (Below w.heap.size w w10) := hb9.out.trans (hk10.mono (by omega))
  have CY := Bytes_same p2 p3 n cap2 cap3 ((List.range n).map f2) (by simp) w10 (hM2.out.below hk10).bytes (hM3.out.below hk10).bytes
  have k33 := (cell_of_row w10 w.heap.size 33 _ _ _ R34.out).trans h33
  clear hk10 cs hM2 hM3 hb9 h33
  by_cases ea : a = 0
  · have ha0 : (((a : Nat) : Int) == 0) = true := by simp [ea]
    clear ea k33
    go_wp2_with (first | (refine wpList_load_row_g (by rfl) 34 _ rfl _ rfl 34 X2 (0, 0) _ RX2.out Tryd.underlying34 rfl X2I.out ?_) | (refine wpList_load_row_g (by rfl) 34 _ rfl _ rfl 34 X2 (0, 0) _ RX3.out Tryd.underlying34 rfl X2I.out ?_))
    refine CY.mono ?_
    rintro e w' ⟨rfl, rfl⟩
    go_wp2_with fail
    go_ret
    exact ⟨rfl, hb10.out⟩
  · have ha0 : (((a : Nat) : Int) == 0) = false := beq_eq_false_iff_ne.2 (by omega)
    by_cases es : st = 0
    · have hm0 : decide (0 < m1) = true := decide_eq_true (by omega)
      subst es
      go_wp2_with (first | (refine wpList_load_row_g (by rfl) 34 _ rfl _ rfl 34 X2 (0, 0) _ RX2.out Tryd.underlying34 rfl X2I.out ?_) | (refine wpList_load_row_g (by rfl) 34 _ rfl _ rfl 34 X2 (0, 0) _ RX3.out Tryd.underlying34 rfl X2I.out ?_))
      refine CY.mono ?_
      rintro e w' ⟨rfl, rfl⟩
      go_wp2_with fail
      go_ret
      exact ⟨rfl, hb10.out⟩
    · have hz : (st != 0) = true := by simpa using es
      go_wp2_with (first | (refine wpList_load_row_g (by rfl) 34 _ rfl _ rfl 34 X2 (0, 0) _ RX2.out Tryd.underlying34 rfl X2I.out ?_) | (refine wpList_load_row_g (by rfl) 34 _ rfl _ rfl 34 X2 (0, 0) _ RX3.out Tryd.underlying34 rfl X2I.out ?_))
      refine CY.mono ?_
      rintro e w' ⟨rfl, rfl⟩
      go_wp2_with fail
      go_ret
      exact ⟨rfl, hb10.out⟩
end Go.Proofs.YtpiohehijkpghaaDoor
