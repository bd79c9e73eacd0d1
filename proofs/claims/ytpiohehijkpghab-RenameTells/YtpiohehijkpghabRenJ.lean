/- Taking, giving, taking back what can't be: the program. -/
import Derived.Test.YtpiohehijkpghabRenI
namespace Go.Proofs.Ytpiohehijkpghab
open Go.RowKit Go.Maps
open Hy
set_option linter.unusedVariables false
theorem zm_info : (Try.prog.info? 42).map (·.size) = some zm.size := map_info rfl
theorem zm_ones : zm.all (·.oneCell') = true := ones_mcs _ _ _ _ _
set_option maxRecDepth 20000 in
set_option maxHeartbeats 1000000 in
theorem nTake_no1 (T : Array Value) (P : Int) (r f : Nat → Int) (a : Option Addr) (n c : Nat) (hT : Hid (T = mcs P r (.slice a n c)))
    (h0 : T[0]? = some (.int .i64 P)) (hF : T[33]? = some (.slice a n c)) (hR : Hid (Rg r)) (k : Int) (hm : Hid (¬ MayBe P n r f)) (hn : n ≤ 140737488355328) (w : World) (hL : Hid (Lie w a n c f)) :
    Calls Try.prog 26 #[.agg T, .int .i64 k] w fun e w' => e = .returned (.tuple #[.agg zm, .int .i64 0, .int .i64 0, .bool false]) ∧ Below w.heap.size w w' := by
  have C1 := fun w => nMay_any T P r f a n c false hT ⟨fun h => (nomatch h), fun h => absurd h hm.out⟩ h0 hF hR hn w
  have HI : Hid ((Try.prog.info? 42).map (·.size) = some T.size) := map_info hT.out
  go_enter Try.func26, Try.ntmps26
  go_upto_region 1 with fail
  refine two_new (Φ := fun W => Code.wp _ _ _ _ W) ?_
  intro W0 HR' HZ' HB' hs0
  have HR0 : Hid (W0.heap[w.heap.size]? = some (.cells T 42 (0, 0))) := HR'
  have HB0 : Hid (Below w.heap.size w W0) := HB'
  obtain ⟨Z, hZ, HZ0⟩ : ∃ Z : Array Value, Hid (Z.size = 34) ∧ Hid (W0.heap[w.heap.size + 1]? = some (.cells Z 42 (0, 0))) := ⟨zm, zm_size, HZ'⟩
  clear HR' HZ' HB'
  go_wp2_with (refine wpList_load_row_g (by rfl) 42 _ rfl _ rfl 42 _ (0, 0) _ HR0.out Try.underlying42 rfl HI.out ?_)
  refine (C1 _ (hL.out.below (Nat.le_refl _) HB0.out)).mono ?_
  rintro e W1 ⟨rfl, hk⟩
  have HR1 : Hid (W1.heap[w.heap.size]? = some (.cells T 42 (0, 0))) := (hk.block _ (heap_lt HR0.out)).trans HR0.out
  have HZ1 : Hid (W1.heap[w.heap.size + 1]? = some (.cells Z 42 (0, 0))) := (hk.block _ (heap_lt HZ0.out)).trans HZ0.out
  have HB1 : Hid (Below w.heap.size w W1) := HB0.out.trans (hk.mono HB0.out.size)
  have hs1 : w.heap.size + 1 < W1.heap.size := heap_lt HZ1.out
  clear hk HR0 HZ0 HB0 hs0
  go_upto_region 2 with (refine wpList_skip (by rfl) ?_)
  go_wp2_with (refine wpList_store_row rfl 42 _ _ rfl _ zm rfl rfl 42 _ HZ1.out zm_info (hZ.out.trans zm_size.symm) zm_ones ?_)
  refine bodyPost_ret (v := .tuple #[.agg zm, .int .i64 0, .int .i64 0, .bool false]) ?_ rfl ⟨rfl, below_row HB1.out (by omega) _⟩
  have L2 := run_loadVar_row (P := Try.prog) _ _ 42 42 zm (0, 0) _ (setRow_heap _ _ _ _ _ _ HZ1.out) Try.underlying42 rfl zm_info
  simp [results, Try.results26, asAddr, L2]
set_option maxRecDepth 20000 in
set_option maxHeartbeats 1000000 in
theorem nTake_no2 (T : Array Value) (P : Int) (r f : Nat → Int) (a : Option Addr) (n c : Nat) (hT : Hid (T = mcs P r (.slice a n c)))
    (h0 : T[0]? = some (.int .i64 P)) (hF : T[33]? = some (.slice a n c)) (hR : Hid (Rg r)) (k : Int) (hm : Hid (MayBe P n r f)) (hk1 : ¬ (1 ≤ k ∧ k < 32)) (w : World) (hL : Hid (Lie w a n c f)) :
    Calls Try.prog 26 #[.agg T, .int .i64 k] w fun e w' => e = .returned (.tuple #[.agg zm, .int .i64 0, .int .i64 0, .bool false]) ∧ Below w.heap.size w w' := by
  have hn64 := hm.out.few.2
  have C1 := fun w => nMay_any T P r f a n c true hT ⟨fun _ => hm.out, fun _ => rfl⟩ h0 hF hR (by omega) w
  have C2 := nnamed_any k
  rw [decide_eq_false hk1] at C2
  have HI : Hid ((Try.prog.info? 42).map (·.size) = some T.size) := map_info hT.out
  go_enter Try.func26, Try.ntmps26
  go_upto_region 1 with fail
  refine two_new (Φ := fun W => Code.wp _ _ _ _ W) ?_
  intro W0 HR' HZ' HB' hs0
  have HR0 : Hid (W0.heap[w.heap.size]? = some (.cells T 42 (0, 0))) := HR'
  have HB0 : Hid (Below w.heap.size w W0) := HB'
  obtain ⟨Z, hZ, HZ0⟩ : ∃ Z : Array Value, Hid (Z.size = 34) ∧ Hid (W0.heap[w.heap.size + 1]? = some (.cells Z 42 (0, 0))) := ⟨zm, zm_size, HZ'⟩
  clear HR' HZ' HB'
  go_wp2_with (refine wpList_load_row_g (by rfl) 42 _ rfl _ rfl 42 _ (0, 0) _ HR0.out Try.underlying42 rfl HI.out ?_)
  refine (C1 _ (hL.out.below (Nat.le_refl _) HB0.out)).mono ?_
  rintro e W1 ⟨rfl, hk⟩
  have HR1 : Hid (W1.heap[w.heap.size]? = some (.cells T 42 (0, 0))) := (hk.block _ (heap_lt HR0.out)).trans HR0.out
  have HZ1 : Hid (W1.heap[w.heap.size + 1]? = some (.cells Z 42 (0, 0))) := (hk.block _ (heap_lt HZ0.out)).trans HZ0.out
  have HB1 : Hid (Below w.heap.size w W1) := HB0.out.trans (hk.mono HB0.out.size)
  have hs1 : w.heap.size + 1 < W1.heap.size := heap_lt HZ1.out
  clear hk HR0 HZ0 HB0 hs0
  go_wp2_with fail
  refine (C2 _).mono ?_
  rintro e w' ⟨rfl, rfl⟩
  obtain ⟨W1, hW1⟩ : ∃ W1, W1 = w' := ⟨_, rfl⟩
  rw [← hW1] at HR1 HZ1 HB1 hs1 ⊢
  clear hW1
  go_upto_region 2 with (refine wpList_skip (by rfl) ?_)
  go_wp2_with (refine wpList_store_row rfl 42 _ _ rfl _ zm rfl rfl 42 _ HZ1.out zm_info (hZ.out.trans zm_size.symm) zm_ones ?_)
  refine bodyPost_ret (v := .tuple #[.agg zm, .int .i64 0, .int .i64 0, .bool false]) ?_ rfl ⟨rfl, below_row HB1.out (by omega) _⟩
  have L2 := run_loadVar_row (P := Try.prog) _ _ 42 42 zm (0, 0) _ (setRow_heap _ _ _ _ _ _ HZ1.out) Try.underlying42 rfl zm_info
  simp [results, Try.results26, asAddr, L2]
set_option maxRecDepth 20000 in
set_option maxHeartbeats 1000000 in
theorem nTake_no3 (T : Array Value) (P : Int) (r f : Nat → Int) (a : Option Addr) (c : Nat) (hT : Hid (T = mcs P r (.slice a 0 c)))
    (h0 : T[0]? = some (.int .i64 P)) (hF : T[33]? = some (.slice a 0 c)) (hR : Hid (Rg r)) (k : Int) (hm : Hid (MayBe P 0 r f)) (hk1 : 1 ≤ k ∧ k < 32) (w : World) (hL : Hid (Lie w a 0 c f)) :
    Calls Try.prog 26 #[.agg T, .int .i64 k] w fun e w' => e = .returned (.tuple #[.agg zm, .int .i64 0, .int .i64 0, .bool false]) ∧ Below w.heap.size w w' := by
  have hn64 := hm.out.few.2
  have C1 := fun w => nMay_any T P r f a 0 c true hT ⟨fun _ => hm.out, fun _ => rfl⟩ h0 hF hR (by omega) w
  have C2 := nnamed_any k
  rw [decide_eq_true hk1] at C2
  have HI : Hid ((Try.prog.info? 42).map (·.size) = some T.size) := map_info hT.out
  go_enter Try.func26, Try.ntmps26
  go_upto_region 1 with fail
  refine two_new (Φ := fun W => Code.wp _ _ _ _ W) ?_
  intro W0 HR' HZ' HB' hs0
  have HR0 : Hid (W0.heap[w.heap.size]? = some (.cells T 42 (0, 0))) := HR'
  have HB0 : Hid (Below w.heap.size w W0) := HB'
  obtain ⟨Z, hZ, HZ0⟩ : ∃ Z : Array Value, Hid (Z.size = 34) ∧ Hid (W0.heap[w.heap.size + 1]? = some (.cells Z 42 (0, 0))) := ⟨zm, zm_size, HZ'⟩
  clear HR' HZ' HB'
  go_wp2_with (refine wpList_load_row_g (by rfl) 42 _ rfl _ rfl 42 _ (0, 0) _ HR0.out Try.underlying42 rfl HI.out ?_)
  refine (C1 _ (hL.out.below (Nat.le_refl _) HB0.out)).mono ?_
  rintro e W1 ⟨rfl, hk⟩
  have HR1 : Hid (W1.heap[w.heap.size]? = some (.cells T 42 (0, 0))) := (hk.block _ (heap_lt HR0.out)).trans HR0.out
  have HZ1 : Hid (W1.heap[w.heap.size + 1]? = some (.cells Z 42 (0, 0))) := (hk.block _ (heap_lt HZ0.out)).trans HZ0.out
  have HB1 : Hid (Below w.heap.size w W1) := HB0.out.trans (hk.mono HB0.out.size)
  have hs1 : w.heap.size + 1 < W1.heap.size := heap_lt HZ1.out
  clear hk HR0 HZ0 HB0 hs0
  go_wp2_with fail
  refine (C2 _).mono ?_
  rintro e w' ⟨rfl, rfl⟩
  obtain ⟨W1, hW1⟩ : ∃ W1, W1 = w' := ⟨_, rfl⟩
  rw [← hW1] at HR1 HZ1 HB1 hs1 ⊢
  clear hW1
  have c33 : W1.cell? ⟨w.heap.size, 33, none⟩ = some (.slice a 0 c) := (cell_of_row _ w.heap.size _ _ _ _ HR1.out).trans hF
  go_upto_region 2 with fail
  go_wp2_with (refine wpList_store_row rfl 42 _ _ rfl _ zm rfl rfl 42 _ HZ1.out zm_info (hZ.out.trans zm_size.symm) zm_ones ?_)
  refine bodyPost_ret (v := .tuple #[.agg zm, .int .i64 0, .int .i64 0, .bool false]) ?_ rfl ⟨rfl, below_row HB1.out (by omega) _⟩
  have L2 := run_loadVar_row (P := Try.prog) _ _ 42 42 zm (0, 0) _ (setRow_heap _ _ _ _ _ _ HZ1.out) Try.underlying42 rfl zm_info
  simp [results, Try.results26, asAddr, L2]
set_option maxRecDepth 20000 in
set_option maxHeartbeats 1000000 in
theorem nGive_no1 (T : Array Value) (P : Int) (r f : Nat → Int) (a : Option Addr) (n c : Nat) (hT : Hid (T = mcs P r (.slice a n c)))
    (h0 : T[0]? = some (.int .i64 P)) (hF : T[33]? = some (.slice a n c)) (hR : Hid (Rg r)) (x : Int) (hm : Hid (¬ MayBe P n r f)) (hn : n ≤ 140737488355328) (w : World) (hL : Hid (Lie w a n c f)) :
    Calls Try.prog 28 #[.agg T, .int .i64 x] w fun e w' => e = .returned (.tuple #[.agg zm, .bool false]) ∧ Below w.heap.size w w' := by
  have C1 := fun w => nMay_any T P r f a n c false hT ⟨fun h => (nomatch h), fun h => absurd h hm.out⟩ h0 hF hR hn w
  have HI : Hid ((Try.prog.info? 42).map (·.size) = some T.size) := map_info hT.out
  go_enter Try.func28, Try.ntmps28
  go_upto_region 1 with fail
  refine two_new (Φ := fun W => Code.wp _ _ _ _ W) ?_
  intro W0 HR' HZ' HB' hs0
  have HR0 : Hid (W0.heap[w.heap.size]? = some (.cells T 42 (0, 0))) := HR'
  have HB0 : Hid (Below w.heap.size w W0) := HB'
  obtain ⟨Z, hZ, HZ0⟩ : ∃ Z : Array Value, Hid (Z.size = 34) ∧ Hid (W0.heap[w.heap.size + 1]? = some (.cells Z 42 (0, 0))) := ⟨zm, zm_size, HZ'⟩
  clear HR' HZ' HB'
  go_wp2_with (refine wpList_load_row_g (by rfl) 42 _ rfl _ rfl 42 _ (0, 0) _ HR0.out Try.underlying42 rfl HI.out ?_)
  refine (C1 _ (hL.out.below (Nat.le_refl _) HB0.out)).mono ?_
  rintro e W1 ⟨rfl, hk⟩
  have HR1 : Hid (W1.heap[w.heap.size]? = some (.cells T 42 (0, 0))) := (hk.block _ (heap_lt HR0.out)).trans HR0.out
  have HZ1 : Hid (W1.heap[w.heap.size + 1]? = some (.cells Z 42 (0, 0))) := (hk.block _ (heap_lt HZ0.out)).trans HZ0.out
  have HB1 : Hid (Below w.heap.size w W1) := HB0.out.trans (hk.mono HB0.out.size)
  have hs1 : w.heap.size + 1 < W1.heap.size := heap_lt HZ1.out
  clear hk HR0 HZ0 HB0 hs0
  go_upto_region 2 with (refine wpList_skip (by rfl) ?_)
  go_wp2_with (refine wpList_store_row rfl 42 _ _ rfl _ zm rfl rfl 42 _ HZ1.out zm_info (hZ.out.trans zm_size.symm) zm_ones ?_)
  refine bodyPost_ret (v := .tuple #[.agg zm, .bool false]) ?_ rfl ⟨rfl, below_row HB1.out (by omega) _⟩
  have L2 := run_loadVar_row (P := Try.prog) _ _ 42 42 zm (0, 0) _ (setRow_heap _ _ _ _ _ _ HZ1.out) Try.underlying42 rfl zm_info
  simp [results, Try.results28, asAddr, L2]
set_option maxRecDepth 20000 in
set_option maxHeartbeats 1000000 in
theorem nGive_no2 (T : Array Value) (P : Int) (r f : Nat → Int) (a : Option Addr) (n c : Nat) (hT : Hid (T = mcs P r (.slice a n c)))
    (h0 : T[0]? = some (.int .i64 P)) (hF : T[33]? = some (.slice a n c)) (hR : Hid (Rg r)) (x : Int) (hm : Hid (MayBe P n r f)) (hx : Hid (¬ Idle P n r f x)) (w : World) (hL : Hid (Lie w a n c f)) :
    Calls Try.prog 28 #[.agg T, .int .i64 x] w fun e w' => e = .returned (.tuple #[.agg zm, .bool false]) ∧ Below w.heap.size w w' := by
  have hn64 := hm.out.few.2
  have C1 := fun w => nMay_any T P r f a n c true hT ⟨fun _ => hm.out, fun _ => rfl⟩ h0 hF hR (by omega) w
  have C3 := fun w => nidle_any T P r f a n c x false hT ⟨fun h => (nomatch h), fun h => absurd h hx.out⟩ h0 hF hR hn64 hm.out.high w
  have HI : Hid ((Try.prog.info? 42).map (·.size) = some T.size) := map_info hT.out
  go_enter Try.func28, Try.ntmps28
  go_upto_region 1 with fail
  refine two_new (Φ := fun W => Code.wp _ _ _ _ W) ?_
  intro W0 HR' HZ' HB' hs0
  have HR0 : Hid (W0.heap[w.heap.size]? = some (.cells T 42 (0, 0))) := HR'
  have HB0 : Hid (Below w.heap.size w W0) := HB'
  obtain ⟨Z, hZ, HZ0⟩ : ∃ Z : Array Value, Hid (Z.size = 34) ∧ Hid (W0.heap[w.heap.size + 1]? = some (.cells Z 42 (0, 0))) := ⟨zm, zm_size, HZ'⟩
  clear HR' HZ' HB'
  go_wp2_with (refine wpList_load_row_g (by rfl) 42 _ rfl _ rfl 42 _ (0, 0) _ HR0.out Try.underlying42 rfl HI.out ?_)
  refine (C1 _ (hL.out.below (Nat.le_refl _) HB0.out)).mono ?_
  rintro e W1 ⟨rfl, hk⟩
  have HR1 : Hid (W1.heap[w.heap.size]? = some (.cells T 42 (0, 0))) := (hk.block _ (heap_lt HR0.out)).trans HR0.out
  have HZ1 : Hid (W1.heap[w.heap.size + 1]? = some (.cells Z 42 (0, 0))) := (hk.block _ (heap_lt HZ0.out)).trans HZ0.out
  have HB1 : Hid (Below w.heap.size w W1) := HB0.out.trans (hk.mono HB0.out.size)
  have hs1 : w.heap.size + 1 < W1.heap.size := heap_lt HZ1.out
  clear hk HR0 HZ0 HB0 hs0
  go_wp2_with (refine wpList_load_row_g (by rfl) 42 _ rfl _ rfl 42 _ (0, 0) _ HR1.out Try.underlying42 rfl HI.out ?_)
  refine (C3 _ (hL.out.below (Nat.le_refl _) HB1.out)).mono ?_
  rintro e W2 ⟨rfl, hk⟩
  have HR2 : Hid (W2.heap[w.heap.size]? = some (.cells T 42 (0, 0))) := (hk.block _ (heap_lt HR1.out)).trans HR1.out
  have HZ2 : Hid (W2.heap[w.heap.size + 1]? = some (.cells Z 42 (0, 0))) := (hk.block _ (heap_lt HZ1.out)).trans HZ1.out
  have HB2 : Hid (Below w.heap.size w W2) := HB1.out.trans (hk.mono HB1.out.size)
  have hs2 : w.heap.size + 1 < W2.heap.size := heap_lt HZ2.out
  clear hk HR1 HZ1 HB1 hs1
  go_upto_region 2 with fail
  go_wp2_with (refine wpList_store_row rfl 42 _ _ rfl _ zm rfl rfl 42 _ HZ2.out zm_info (hZ.out.trans zm_size.symm) zm_ones ?_)
  refine bodyPost_ret (v := .tuple #[.agg zm, .bool false]) ?_ rfl ⟨rfl, below_row HB2.out (by omega) _⟩
  have L2 := run_loadVar_row (P := Try.prog) _ _ 42 42 zm (0, 0) _ (setRow_heap _ _ _ _ _ _ HZ2.out) Try.underlying42 rfl zm_info
  simp [results, Try.results28, asAddr, L2]
set_option maxRecDepth 20000 in
set_option maxHeartbeats 1000000 in
theorem nUndo_no1 (T : Array Value) (P : Int) (r f : Nat → Int) (a : Option Addr) (n c : Nat) (hT : Hid (T = mcs P r (.slice a n c)))
    (h0 : T[0]? = some (.int .i64 P)) (hF : T[33]? = some (.slice a n c)) (hR : Hid (Rg r)) (k x : Int) (hm : Hid (¬ MayBe P n r f)) (hn : n ≤ 140737488355328) (w : World) (hL : Hid (Lie w a n c f)) :
    Calls Try.prog 30 #[.agg T, .int .i64 k, .int .i64 x] w fun e w' => e = .returned (.tuple #[.agg zm, .bool false]) ∧ Below w.heap.size w w' := by
  have C1 := fun w => nMay_any T P r f a n c false hT ⟨fun h => (nomatch h), fun h => absurd h hm.out⟩ h0 hF hR hn w
  have HI : Hid ((Try.prog.info? 42).map (·.size) = some T.size) := map_info hT.out
  go_enter Try.func30, Try.ntmps30
  go_upto_region 1 with fail
  refine two_new (Φ := fun W => Code.wp _ _ _ _ W) ?_
  intro W0 HR' HZ' HB' hs0
  have HR0 : Hid (W0.heap[w.heap.size]? = some (.cells T 42 (0, 0))) := HR'
  have HB0 : Hid (Below w.heap.size w W0) := HB'
  obtain ⟨Z, hZ, HZ0⟩ : ∃ Z : Array Value, Hid (Z.size = 34) ∧ Hid (W0.heap[w.heap.size + 1]? = some (.cells Z 42 (0, 0))) := ⟨zm, zm_size, HZ'⟩
  clear HR' HZ' HB'
  go_wp2_with (refine wpList_load_row_g (by rfl) 42 _ rfl _ rfl 42 _ (0, 0) _ HR0.out Try.underlying42 rfl HI.out ?_)
  refine (C1 _ (hL.out.below (Nat.le_refl _) HB0.out)).mono ?_
  rintro e W1 ⟨rfl, hk⟩
  have HR1 : Hid (W1.heap[w.heap.size]? = some (.cells T 42 (0, 0))) := (hk.block _ (heap_lt HR0.out)).trans HR0.out
  have HZ1 : Hid (W1.heap[w.heap.size + 1]? = some (.cells Z 42 (0, 0))) := (hk.block _ (heap_lt HZ0.out)).trans HZ0.out
  have HB1 : Hid (Below w.heap.size w W1) := HB0.out.trans (hk.mono HB0.out.size)
  have hs1 : w.heap.size + 1 < W1.heap.size := heap_lt HZ1.out
  clear hk HR0 HZ0 HB0 hs0
  go_upto_region 2 with (refine wpList_skip (by rfl) ?_)
  go_wp2_with (refine wpList_store_row rfl 42 _ _ rfl _ zm rfl rfl 42 _ HZ1.out zm_info (hZ.out.trans zm_size.symm) zm_ones ?_)
  refine bodyPost_ret (v := .tuple #[.agg zm, .bool false]) ?_ rfl ⟨rfl, below_row HB1.out (by omega) _⟩
  have L2 := run_loadVar_row (P := Try.prog) _ _ 42 42 zm (0, 0) _ (setRow_heap _ _ _ _ _ _ HZ1.out) Try.underlying42 rfl zm_info
  simp [results, Try.results30, asAddr, L2]
set_option maxRecDepth 20000 in
set_option maxHeartbeats 1000000 in
theorem nUndo_no2 (T : Array Value) (P : Int) (r f : Nat → Int) (a : Option Addr) (n c : Nat) (hT : Hid (T = mcs P r (.slice a n c)))
    (h0 : T[0]? = some (.int .i64 P)) (hF : T[33]? = some (.slice a n c)) (hR : Hid (Rg r)) (k x : Int) (hm : Hid (MayBe P n r f)) (hk1 : ¬ (1 ≤ k ∧ k < 32)) (w : World) (hL : Hid (Lie w a n c f)) :
    Calls Try.prog 30 #[.agg T, .int .i64 k, .int .i64 x] w fun e w' => e = .returned (.tuple #[.agg zm, .bool false]) ∧ Below w.heap.size w w' := by
  have hn64 := hm.out.few.2
  have C1 := fun w => nMay_any T P r f a n c true hT ⟨fun _ => hm.out, fun _ => rfl⟩ h0 hF hR (by omega) w
  have C2 := nnamed_any k
  rw [decide_eq_false hk1] at C2
  have HI : Hid ((Try.prog.info? 42).map (·.size) = some T.size) := map_info hT.out
  go_enter Try.func30, Try.ntmps30
  go_upto_region 1 with fail
  refine two_new (Φ := fun W => Code.wp _ _ _ _ W) ?_
  intro W0 HR' HZ' HB' hs0
  have HR0 : Hid (W0.heap[w.heap.size]? = some (.cells T 42 (0, 0))) := HR'
  have HB0 : Hid (Below w.heap.size w W0) := HB'
  obtain ⟨Z, hZ, HZ0⟩ : ∃ Z : Array Value, Hid (Z.size = 34) ∧ Hid (W0.heap[w.heap.size + 1]? = some (.cells Z 42 (0, 0))) := ⟨zm, zm_size, HZ'⟩
  clear HR' HZ' HB'
  go_wp2_with (refine wpList_load_row_g (by rfl) 42 _ rfl _ rfl 42 _ (0, 0) _ HR0.out Try.underlying42 rfl HI.out ?_)
  refine (C1 _ (hL.out.below (Nat.le_refl _) HB0.out)).mono ?_
  rintro e W1 ⟨rfl, hk⟩
  have HR1 : Hid (W1.heap[w.heap.size]? = some (.cells T 42 (0, 0))) := (hk.block _ (heap_lt HR0.out)).trans HR0.out
  have HZ1 : Hid (W1.heap[w.heap.size + 1]? = some (.cells Z 42 (0, 0))) := (hk.block _ (heap_lt HZ0.out)).trans HZ0.out
  have HB1 : Hid (Below w.heap.size w W1) := HB0.out.trans (hk.mono HB0.out.size)
  have hs1 : w.heap.size + 1 < W1.heap.size := heap_lt HZ1.out
  clear hk HR0 HZ0 HB0 hs0
  go_wp2_with fail
  refine (C2 _).mono ?_
  rintro e w' ⟨rfl, rfl⟩
  obtain ⟨W1, hW1⟩ : ∃ W1, W1 = w' := ⟨_, rfl⟩
  rw [← hW1] at HR1 HZ1 HB1 hs1 ⊢
  clear hW1
  go_upto_region 2 with (refine wpList_skip (by rfl) ?_)
  go_wp2_with (refine wpList_store_row rfl 42 _ _ rfl _ zm rfl rfl 42 _ HZ1.out zm_info (hZ.out.trans zm_size.symm) zm_ones ?_)
  refine bodyPost_ret (v := .tuple #[.agg zm, .bool false]) ?_ rfl ⟨rfl, below_row HB1.out (by omega) _⟩
  have L2 := run_loadVar_row (P := Try.prog) _ _ 42 42 zm (0, 0) _ (setRow_heap _ _ _ _ _ _ HZ1.out) Try.underlying42 rfl zm_info
  simp [results, Try.results30, asAddr, L2]
set_option maxRecDepth 20000 in
set_option maxHeartbeats 1000000 in
theorem nUndo_no3 (T : Array Value) (P : Int) (r f : Nat → Int) (a : Option Addr) (n c : Nat) (hT : Hid (T = mcs P r (.slice a n c)))
    (h0 : T[0]? = some (.int .i64 P)) (hF : T[33]? = some (.slice a n c)) (hR : Hid (Rg r)) (k x : Int) (hm : Hid (MayBe P n r f)) (hk1 : 1 ≤ k ∧ k < 32) (hx : Hid (¬ Idle P n r f x)) (w : World) (hL : Hid (Lie w a n c f)) :
    Calls Try.prog 30 #[.agg T, .int .i64 k, .int .i64 x] w fun e w' => e = .returned (.tuple #[.agg zm, .bool false]) ∧ Below w.heap.size w w' := by
  have hn64 := hm.out.few.2
  have C1 := fun w => nMay_any T P r f a n c true hT ⟨fun _ => hm.out, fun _ => rfl⟩ h0 hF hR (by omega) w
  have C2 := nnamed_any k
  rw [decide_eq_true hk1] at C2
  have C3 := fun w => nidle_any T P r f a n c x false hT ⟨fun h => (nomatch h), fun h => absurd h hx.out⟩ h0 hF hR hn64 hm.out.high w
  have HI : Hid ((Try.prog.info? 42).map (·.size) = some T.size) := map_info hT.out
  go_enter Try.func30, Try.ntmps30
  go_upto_region 1 with fail
  refine two_new (Φ := fun W => Code.wp _ _ _ _ W) ?_
  intro W0 HR' HZ' HB' hs0
  have HR0 : Hid (W0.heap[w.heap.size]? = some (.cells T 42 (0, 0))) := HR'
  have HB0 : Hid (Below w.heap.size w W0) := HB'
  obtain ⟨Z, hZ, HZ0⟩ : ∃ Z : Array Value, Hid (Z.size = 34) ∧ Hid (W0.heap[w.heap.size + 1]? = some (.cells Z 42 (0, 0))) := ⟨zm, zm_size, HZ'⟩
  clear HR' HZ' HB'
  go_wp2_with (refine wpList_load_row_g (by rfl) 42 _ rfl _ rfl 42 _ (0, 0) _ HR0.out Try.underlying42 rfl HI.out ?_)
  refine (C1 _ (hL.out.below (Nat.le_refl _) HB0.out)).mono ?_
  rintro e W1 ⟨rfl, hk⟩
  have HR1 : Hid (W1.heap[w.heap.size]? = some (.cells T 42 (0, 0))) := (hk.block _ (heap_lt HR0.out)).trans HR0.out
  have HZ1 : Hid (W1.heap[w.heap.size + 1]? = some (.cells Z 42 (0, 0))) := (hk.block _ (heap_lt HZ0.out)).trans HZ0.out
  have HB1 : Hid (Below w.heap.size w W1) := HB0.out.trans (hk.mono HB0.out.size)
  have hs1 : w.heap.size + 1 < W1.heap.size := heap_lt HZ1.out
  clear hk HR0 HZ0 HB0 hs0
  go_wp2_with fail
  refine (C2 _).mono ?_
  rintro e w' ⟨rfl, rfl⟩
  obtain ⟨W1, hW1⟩ : ∃ W1, W1 = w' := ⟨_, rfl⟩
  rw [← hW1] at HR1 HZ1 HB1 hs1 ⊢
  clear hW1
  go_wp2_with (refine wpList_load_row_g (by rfl) 42 _ rfl _ rfl 42 _ (0, 0) _ HR1.out Try.underlying42 rfl HI.out ?_)
  refine (C3 _ (hL.out.below (Nat.le_refl _) HB1.out)).mono ?_
  rintro e W2 ⟨rfl, hk⟩
  have HR2 : Hid (W2.heap[w.heap.size]? = some (.cells T 42 (0, 0))) := (hk.block _ (heap_lt HR1.out)).trans HR1.out
  have HZ2 : Hid (W2.heap[w.heap.size + 1]? = some (.cells Z 42 (0, 0))) := (hk.block _ (heap_lt HZ1.out)).trans HZ1.out
  have HB2 : Hid (Below w.heap.size w W2) := HB1.out.trans (hk.mono HB1.out.size)
  have hs2 : w.heap.size + 1 < W2.heap.size := heap_lt HZ2.out
  clear hk HR1 HZ1 HB1 hs1
  go_upto_region 2 with fail
  go_wp2_with (refine wpList_store_row rfl 42 _ _ rfl _ zm rfl rfl 42 _ HZ2.out zm_info (hZ.out.trans zm_size.symm) zm_ones ?_)
  refine bodyPost_ret (v := .tuple #[.agg zm, .bool false]) ?_ rfl ⟨rfl, below_row HB2.out (by omega) _⟩
  have L2 := run_loadVar_row (P := Try.prog) _ _ 42 42 zm (0, 0) _ (setRow_heap _ _ _ _ _ _ HZ2.out) Try.underlying42 rfl zm_info
  simp [results, Try.results30, asAddr, L2]
end Go.Proofs.Ytpiohehijkpghab
