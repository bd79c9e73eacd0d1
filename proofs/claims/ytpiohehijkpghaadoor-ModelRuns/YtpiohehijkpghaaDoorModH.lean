/- The law that the program does one instruction after the other, walked. -/
import Derived.Test.YtpiohehijkpghaaDoorModG
namespace Go.Proofs.YtpiohehijkpghaaDoor
open Go.RowKit
open Hy
set_option linter.unusedVariables false
set_option linter.unusedSimpArgs false

set_option maxRecDepth 20000 in
set_option maxHeartbeats 4000000 in
theorem runs_ok (H X : Array Value) (L : List Value) (f' : Nat → Int) (p : Option Addr) (n c m : Nat) (K : Int) (w : World) (hI : Hid (H.size = 35)) (hX : Hid (X.size = 35 ∧ Ones X)) (q34 : ∀ w, (binOp .eql 34 (.agg X) (.agg X)).run Tryd.prog w = .ok (.bool true) w)
    (CR : ∀ W, Below w.heap.size w W → Calls Tryd.prog 21 #[.agg H, .slice p n c, .int .i64 K] W fun e w' => (∃ lp lc p' cap, e = .returned (.tuple #[.slice lp m lc, .agg X, .slice p' n cap, .int .i64 0]) ∧ w'.ownsRow W.heap.size 38 11 (.slice lp m lc) m L ∧ Mem w' p' n f') ∧ Below W.heap.size W w')
    (CW : ∀ W, Calls Tryd.prog 22 #[.agg H, .slice p n c, .int .i64 K] W fun e w' => e = .returned (.int .i64 0) ∧ Below W.heap.size W w')
    (CP : ∀ W, Below w.heap.size w W → Calls Tryd.prog 23 #[.agg H, .slice p n c, .int .i64 K] W fun e w' => (∃ lp lc p' cap, e = .returned (.tuple #[.slice lp m lc, .agg X, .slice p' n cap]) ∧ w'.ownsRow W.heap.size 38 11 (.slice lp m lc) m L ∧ Mem w' p' n f') ∧ Below W.heap.size W w')
    (CS : ∀ W b1 b2 p1 c1 p2 c2, W.ownsRow b1 38 11 (.slice p1 m c1) m L → W.ownsRow b2 38 11 (.slice p2 m c2) m L → Calls Tryd.prog 24 #[.slice p1 m c1, .slice p2 m c2] W fun e w' => e = .returned (.bool true) ∧ Below W.heap.size W w') :
    Calls Tryd.prog 8 #[.agg H, .slice p n c, .int .i64 K] w fun e w' => e = .returned (.bool true) ∧ Below w.heap.size w w' := by
  have xI : Hid ((Tryd.prog.info? 34).map (·.size) = some X.size) := info_hart hX.out.1
  go_enter Tryd.func8, Tryd.ntmps8
  go_wp2_with (refine wpList_load_row rfl 34 _ rfl _ rfl 34 _ (0, 0) _ (heap_alloc_new _ _) Tryd.underlying34 rfl (info_hart hI.out) ?_)
  refine (CR _ ((Below.refl _ _).alloc (Nat.le_refl _) _)).mono ?_
  rintro e w2 ⟨⟨lp, lc, p', cap, rfl, hown, hM⟩, hk2⟩
  have hs2 : w.heap.size + 1 ≤ w2.heap.size := by have := hk2.size; simpa using this
  have R34 : Hid (w2.heap[w.heap.size]? = some (.cells H 34 (0, 0))) := (hk2.block _ (by simp)).trans (heap_alloc_new _ _)
  have hb2 : Hid (Below w.heap.size w w2) := ((Below.refl _ _).alloc (Nat.le_refl _) _).trans (hk2.mono (by simp))
  have hown : Hid (w2.ownsRow (w.heap.size + 1) 38 11 (.slice lp m lc) m L) := by have h := hown; simp at h; exact h
  have hM : Hid (Mem w2 p' n f') := hM
  clear hk2 CR
  go_upto_region 2 with (refine wpList_store_row rfl 34 _ _ rfl _ _ rfl rfl 34 (hcs (fun _ => 0) 0 0 0) (heap_alloc_new _ _) xI.out (size_as hX.out.1) hX.out.2 ?_)
  try simp only [Act.put]
  rw [World.setRow_alloc_new]
  obtain ⟨W3, hW3⟩ : ∃ W3 : World, Hid (W3 = w2.alloc (.cells X 34)) := ⟨_, rfl⟩
  rw [← hW3.out]
  have s3 : w2.heap.size + 1 = W3.heap.size := by rw [hW3.out]; simp
  have R34 : Hid (W3.heap[w.heap.size]? = some (.cells H 34 (0, 0))) := by rw [hW3.out]; exact (Below.heap_alloc _ _ _ (by omega)).trans R34.out
  have RX : Hid (W3.heap[w2.heap.size]? = some (.cells X 34 (0, 0))) := by rw [hW3.out]; exact heap_alloc_new _ _
  have hb3 : Hid (Below w.heap.size w W3) := by rw [hW3.out]; exact hb2.out.alloc (by omega) _
  have hown : Hid (W3.ownsRow (w.heap.size + 1) 38 11 (.slice lp m lc) m L) := by rw [hW3.out]; exact hown.out.alloc _
  have hM : Hid (Mem W3 p' n f') := by rw [hW3.out]; exact hM.out.below ((Below.refl _ _).alloc (Nat.le_refl _) _)
  clear hW3 hb2
  go_wp2_with (refine wpList_load_row rfl 34 _ rfl _ rfl 34 _ (0, 0) _ R34.out Tryd.underlying34 rfl (info_hart hI.out) ?_)
  refine (CW _).mono ?_
  rintro e w4 ⟨rfl, hk4⟩
  have s4 : W3.heap.size ≤ w4.heap.size := hk4.size
  have R34 : Hid (w4.heap[w.heap.size]? = some (.cells H 34 (0, 0))) := (hk4.block _ (by omega)).trans R34.out
  have RX : Hid (w4.heap[w2.heap.size]? = some (.cells X 34 (0, 0))) := (hk4.block _ (by omega)).trans RX.out
  have hb4 : Hid (Below w.heap.size w w4) := hb3.out.trans (hk4.mono (by omega))
  have hown : Hid (w4.ownsRow (w.heap.size + 1) 38 11 (.slice lp m lc) m L) := owns_move hown.out (fun g hg => hk4.block g (hown.out.lt g hg).2)
  have hM : Hid (Mem w4 p' n f') := hM.out.below hk4
  clear hk4 CW hb3
  go_wp2_with (refine wpList_load_row rfl 34 _ rfl _ rfl 34 _ (0, 0) _ R34.out Tryd.underlying34 rfl (info_hart hI.out) ?_)
  refine (CP _ hb4.out).mono ?_
  rintro e w5 ⟨⟨lp2, lc2, p2, cap2, rfl, hown2, hM2⟩, hk5⟩
  have s5 : w4.heap.size ≤ w5.heap.size := hk5.size
  have RX : Hid (w5.heap[w2.heap.size]? = some (.cells X 34 (0, 0))) := (hk5.block _ (by omega)).trans RX.out
  have hb5 : Hid (Below w.heap.size w w5) := hb4.out.trans (hk5.mono (by omega))
  have hown : Hid (w5.ownsRow (w.heap.size + 1) 38 11 (.slice lp m lc) m L) := owns_move hown.out (fun g hg => hk5.block g (hown.out.lt g hg).2)
  have hM : Hid (Mem w5 p' n f') := hM.out.below hk5
  have hown2 : Hid (w5.ownsRow w4.heap.size 38 11 (.slice lp2 m lc2) m L) := hown2
  have hM2 : Hid (Mem w5 p2 n f') := hM2
  clear hk5 CP hb4 R34
  go_upto_region 6 with (refine wpList_store_row rfl 34 _ _ rfl _ _ rfl rfl 34 (hcs (fun _ => 0) 0 0 0) (heap_alloc_new _ _) xI.out (size_as hX.out.1) hX.out.2 ?_)
  try simp only [Act.put]
  rw [World.setRow_alloc_new]
  obtain ⟨W6, hW6⟩ : ∃ W6 : World, Hid (W6 = w5.alloc (.cells X 34)) := ⟨_, rfl⟩
  rw [← hW6.out]
  have s6 : w5.heap.size + 1 = W6.heap.size := by rw [hW6.out]; simp
  have RX : Hid (W6.heap[w2.heap.size]? = some (.cells X 34 (0, 0))) := by rw [hW6.out]; exact (Below.heap_alloc _ _ _ (by omega)).trans RX.out
  have RY : Hid (W6.heap[w5.heap.size]? = some (.cells X 34 (0, 0))) := by rw [hW6.out]; exact heap_alloc_new _ _
  have hb6 : Hid (Below w.heap.size w W6) := by rw [hW6.out]; exact hb5.out.alloc (by omega) _
  have cs := CS W6 _ _ lp lc lp2 lc2 (by rw [hW6.out]; exact hown.out.alloc _) (by rw [hW6.out]; exact hown2.out.alloc _)
  have hM : Hid (Mem W6 p' n f') := by rw [hW6.out]; exact hM.out.below ((Below.refl _ _).alloc (Nat.le_refl _) _)
  have hM2 : Hid (Mem W6 p2 n f') := by rw [hW6.out]; exact hM2.out.below ((Below.refl _ _).alloc (Nat.le_refl _) _)
  clear hW6 hown hown2 hb5 CS
  go_wp2_with fail
  refine cs.mono ?_
  rintro e w7 ⟨rfl, hk7⟩
  have s7 : W6.heap.size ≤ w7.heap.size := hk7.size
  have RX : Hid (w7.heap[w2.heap.size]? = some (.cells X 34 (0, 0))) := (hk7.block _ (by omega)).trans RX.out
  have RY : Hid (w7.heap[w5.heap.size]? = some (.cells X 34 (0, 0))) := (hk7.block _ (by omega)).trans RY.out
  have hb7 : Hid (Below w.heap.size w w7) := hb6.out.trans (hk7.mono (by omega))
  have CY := Bytes_same p' p2 n cap cap2 ((List.range n).map f') (by simp) w7 (hM.out.below hk7).bytes (hM2.out.below hk7).bytes
  clear hk7 cs hM hM2 hb6
  go_wp2_with (first | (refine wpList_load_row_g (by rfl) 34 _ rfl _ rfl 34 X (0, 0) _ RX.out Tryd.underlying34 rfl xI.out ?_) | (refine wpList_load_row_g (by rfl) 34 _ rfl _ rfl 34 X (0, 0) _ RY.out Tryd.underlying34 rfl xI.out ?_))
  refine CY.mono ?_
  rintro e w' ⟨rfl, rfl⟩
  go_wp2_with fail
  go_ret
  exact ⟨rfl, hb7.out⟩

set_option maxRecDepth 20000 in
set_option maxHeartbeats 4000000 in
theorem runs_err (H : Array Value) (p : Option Addr) (n c : Nat) (K E : Int) (w : World) (hI : Hid (H.size = 35)) (hE : (E != 0) = true)
    (CR : ∀ W, Calls Tryd.prog 21 #[.agg H, .slice p n c, .int .i64 K] W fun e w' => e = .returned (.tuple #[.slice none 0 0, hv (fun _ => 0) 0 0 0, .slice none 0 0, .int .i64 E]) ∧ Below W.heap.size W w')
    (CW : ∀ W, Calls Tryd.prog 22 #[.agg H, .slice p n c, .int .i64 K] W fun e w' => e = .returned (.int .i64 E) ∧ Below W.heap.size W w') :
    Calls Tryd.prog 8 #[.agg H, .slice p n c, .int .i64 K] w fun e w' => e = .returned (.bool true) ∧ Below w.heap.size w w' := by
  have q34 := eql0h
  go_enter Tryd.func8, Tryd.ntmps8
  go_wp2_with (refine wpList_load_row rfl 34 _ rfl _ rfl 34 _ (0, 0) _ (heap_alloc_new _ _) Tryd.underlying34 rfl (info_hart hI.out) ?_)
  refine (CR _).mono ?_
  rintro e w2 ⟨rfl, hk2⟩
  have hs2 : w.heap.size + 1 ≤ w2.heap.size := by have := hk2.size; simpa using this
  have R34 : Hid (w2.heap[w.heap.size]? = some (.cells H 34 (0, 0))) := (hk2.block _ (by simp)).trans (heap_alloc_new _ _)
  have hb2 : Hid (Below w.heap.size w w2) := ((Below.refl _ _).alloc (Nat.le_refl _) _).trans (hk2.mono (by simp))
  clear hk2 CR
  go_upto_region 2 with (refine wpList_store_row rfl 34 _ _ rfl _ _ rfl rfl 34 (hcs (fun _ => 0) 0 0 0) (heap_alloc_new _ _) size_hart rfl ones_zero ?_)
  try simp only [Act.put]
  rw [World.setRow_alloc_new]
  obtain ⟨W3, hW3⟩ : ∃ W3 : World, Hid (W3 = w2.alloc (.cells (hcs (fun _ => 0) 0 0 0) 34)) := ⟨_, rfl⟩
  rw [← hW3.out]
  have s3 : w2.heap.size + 1 = W3.heap.size := by rw [hW3.out]; simp
  have R34 : Hid (W3.heap[w.heap.size]? = some (.cells H 34 (0, 0))) := by rw [hW3.out]; exact (Below.heap_alloc _ _ _ (by omega)).trans R34.out
  have RX : Hid (W3.heap[w2.heap.size]? = some (.cells (hcs (fun _ => 0) 0 0 0) 34 (0, 0))) := by rw [hW3.out]; exact heap_alloc_new _ _
  have hb3 : Hid (Below w.heap.size w W3) := by rw [hW3.out]; exact hb2.out.alloc (by omega) _
  clear hW3 hb2
  go_wp2_with (refine wpList_load_row rfl 34 _ rfl _ rfl 34 _ (0, 0) _ R34.out Tryd.underlying34 rfl (info_hart hI.out) ?_)
  refine (CW _).mono ?_
  rintro e w4 ⟨rfl, hk4⟩
  have s4 : W3.heap.size ≤ w4.heap.size := hk4.size
  have RX : Hid (w4.heap[w2.heap.size]? = some (.cells (hcs (fun _ => 0) 0 0 0) 34 (0, 0))) := (hk4.block _ (by omega)).trans RX.out
  have hb4 : Hid (Below w.heap.size w w4) := hb3.out.trans (hk4.mono (by omega))
  clear hk4 CW hb3 R34
  go_wp2_with (refine wpList_load_row_g (by rfl) 34 _ rfl _ rfl 34 (hcs (fun _ => 0) 0 0 0) (0, 0) _ RX.out Tryd.underlying34 rfl size_hart ?_)
  go_ret
  exact ⟨rfl, hb4.out⟩
end Go.Proofs.YtpiohehijkpghaaDoor
