/- Taking, giving, taking back what can't be: the document. -/
import Derived.Test.YtpiohehijkpghabRenP
import Derived.Test.YtpiohehijkpghabRenJ
namespace Go.Proofs.Ytpiohehijkpghab
open Go.RowKit Go.Maps
open Hy
set_option linter.unusedVariables false
set_option maxRecDepth 20000 in
set_option maxHeartbeats 1000000 in
theorem zTake_no1 (T : Array Value) (P : Int) (r f : Nat → Int) (a : Option Addr) (n c : Nat) (hT : Hid (T = mcs P r (.slice a n c)))
    (h0 : T[0]? = some (.int .i64 P)) (hF : T[33]? = some (.slice a n c)) (k : Int) (hn : n ≤ 140737488355328) (hm : Hid (¬ MayBe P n r f)) (w : World) (hL : Hid (Lie w a n c f)) :
    Calls Try.prog 27 #[.agg T, .int .i64 k] w fun e w' => e = .returned (.tuple #[.agg zm, .int .i64 0, .int .i64 0, .bool false]) ∧ Below w.heap.size w w' := by
  have C1 := fun w => zMay_any T P r f a n c false hT ⟨fun h => (nomatch h), fun h => absurd h hm.out⟩ h0 hF hn w
  have HI : Hid ((Try.prog.info? 42).map (·.size) = some T.size) := map_info hT.out
  go_enter Try.func27, Try.ntmps27
  go_upto_region 1 with fail
  refine two_new (Φ := fun W => Code.wp _ _ _ _ W) ?_
  intro W0 HR' HZ' HB' hs0
  have HR0 : Hid (W0.heap[w.heap.size]? = some (.cells T 42 (0, 0))) := HR'
  have HB0 : Hid (Below w.heap.size w W0) := HB'
  obtain ⟨Z, hZ, HZ0⟩ : ∃ Z : Array Value, Hid (Z.size = 34) ∧ Hid (W0.heap[w.heap.size + 1]? = some (.cells Z 42 (0, 0))) := ⟨zm, zm_size, HZ'⟩
  clear HR' HZ' HB'
  go_wp2_with (refine wpList_load_row_g (by rfl) 42 _ rfl _ rfl 42 _ (0, 0) _ HR0.out Try.underlying42 rfl HI.out ?_)
  refine (C1 _ (hL.out.below (Nat.le_refl _) HB0.out)).mono ?_
  rintro e W1 ⟨rfl, hk⟩
  have HR1 : Hid (W1.heap[w.heap.size]? = some (.cells T 42 (0, 0))) := (hk.block _ (heap_lt HR0.out)).trans HR0.out
  have HZ1 : Hid (W1.heap[w.heap.size + 1]? = some (.cells Z 42 (0, 0))) := (hk.block _ (heap_lt HZ0.out)).trans HZ0.out
  have HB1 : Hid (Below w.heap.size w W1) := HB0.out.trans (hk.mono HB0.out.size)
  have hs1 : w.heap.size + 1 < W1.heap.size := heap_lt HZ1.out
  clear hk HR0 HZ0 HB0 hs0
  go_upto_region 2 with (refine wpList_skip (by rfl) ?_)
  go_wp2_with (refine wpList_store_row rfl 42 _ _ rfl _ zm rfl rfl 42 _ HZ1.out zm_info (hZ.out.trans zm_size.symm) zm_ones ?_)
  refine bodyPost_ret (v := .tuple #[.agg zm, .int .i64 0, .int .i64 0, .bool false]) ?_ rfl ⟨rfl, below_row HB1.out (by omega) _⟩
  have L2 := run_loadVar_row (P := Try.prog) _ _ 42 42 zm (0, 0) _ (setRow_heap _ _ _ _ _ _ HZ1.out) Try.underlying42 rfl zm_info
  simp [results, Try.results27, asAddr, L2]
set_option maxRecDepth 20000 in
set_option maxHeartbeats 1000000 in
theorem zTake_no2 (T : Array Value) (P : Int) (r f : Nat → Int) (a : Option Addr) (n c : Nat) (hT : Hid (T = mcs P r (.slice a n c)))
    (h0 : T[0]? = some (.int .i64 P)) (hF : T[33]? = some (.slice a n c)) (k : Int) (hn : n ≤ 140737488355328) (hm : Hid (MayBe P n r f)) (hz : n = 0) (w : World) (hL : Hid (Lie w a n c f)) :
    Calls Try.prog 27 #[.agg T, .int .i64 k] w fun e w' => e = .returned (.tuple #[.agg zm, .int .i64 0, .int .i64 0, .bool false]) ∧ Below w.heap.size w w' := by
  subst hz
  have C1 := fun w => zMay_any T P r f a 0 c true hT ⟨fun _ => hm.out, fun _ => rfl⟩ h0 hF hn w
  have HI : Hid ((Try.prog.info? 42).map (·.size) = some T.size) := map_info hT.out
  go_enter Try.func27, Try.ntmps27
  go_upto_region 1 with fail
  refine two_new (Φ := fun W => Code.wp _ _ _ _ W) ?_
  intro W0 HR' HZ' HB' hs0
  have HR0 : Hid (W0.heap[w.heap.size]? = some (.cells T 42 (0, 0))) := HR'
  have HB0 : Hid (Below w.heap.size w W0) := HB'
  obtain ⟨Z, hZ, HZ0⟩ : ∃ Z : Array Value, Hid (Z.size = 34) ∧ Hid (W0.heap[w.heap.size + 1]? = some (.cells Z 42 (0, 0))) := ⟨zm, zm_size, HZ'⟩
  clear HR' HZ' HB'
  go_wp2_with (refine wpList_load_row_g (by rfl) 42 _ rfl _ rfl 42 _ (0, 0) _ HR0.out Try.underlying42 rfl HI.out ?_)
  refine (C1 _ (hL.out.below (Nat.le_refl _) HB0.out)).mono ?_
  rintro e W1 ⟨rfl, hk⟩
  have HR1 : Hid (W1.heap[w.heap.size]? = some (.cells T 42 (0, 0))) := (hk.block _ (heap_lt HR0.out)).trans HR0.out
  have HZ1 : Hid (W1.heap[w.heap.size + 1]? = some (.cells Z 42 (0, 0))) := (hk.block _ (heap_lt HZ0.out)).trans HZ0.out
  have HB1 : Hid (Below w.heap.size w W1) := HB0.out.trans (hk.mono HB0.out.size)
  have hs1 : w.heap.size + 1 < W1.heap.size := heap_lt HZ1.out
  clear hk HR0 HZ0 HB0 hs0
  have c33 : W1.cell? ⟨w.heap.size, 33, none⟩ = some (.slice a 0 c) := (cell_of_row _ w.heap.size _ _ _ _ HR1.out).trans hF
  go_upto_region 2 with (refine wpList_skip (by rfl) ?_)
  go_wp2_with (refine wpList_store_row rfl 42 _ _ rfl _ zm rfl rfl 42 _ HZ1.out zm_info (hZ.out.trans zm_size.symm) zm_ones ?_)
  refine bodyPost_ret (v := .tuple #[.agg zm, .int .i64 0, .int .i64 0, .bool false]) ?_ rfl ⟨rfl, below_row HB1.out (by omega) _⟩
  have L2 := run_loadVar_row (P := Try.prog) _ _ 42 42 zm (0, 0) _ (setRow_heap _ _ _ _ _ _ HZ1.out) Try.underlying42 rfl zm_info
  simp [results, Try.results27, asAddr, L2]
set_option maxRecDepth 20000 in
set_option maxHeartbeats 1000000 in
theorem zTake_no3 (T : Array Value) (P : Int) (r f : Nat → Int) (a : Option Addr) (n c : Nat) (hT : Hid (T = mcs P r (.slice a n c)))
    (h0 : T[0]? = some (.int .i64 P)) (hF : T[33]? = some (.slice a n c)) (k : Int) (hn : n ≤ 140737488355328) (hm : Hid (MayBe P n r f)) (hz : 0 < n) (hk1 : k < 1) (w : World) (hL : Hid (Lie w a n c f)) :
    Calls Try.prog 27 #[.agg T, .int .i64 k] w fun e w' => e = .returned (.tuple #[.agg zm, .int .i64 0, .int .i64 0, .bool false]) ∧ Below w.heap.size w w' := by
  have hz' : ((n : Int) == 0) = false := by simp; omega
  have C1 := fun w => zMay_any T P r f a n c true hT ⟨fun _ => hm.out, fun _ => rfl⟩ h0 hF hn w
  have HI : Hid ((Try.prog.info? 42).map (·.size) = some T.size) := map_info hT.out
  go_enter Try.func27, Try.ntmps27
  go_upto_region 1 with fail
  refine two_new (Φ := fun W => Code.wp _ _ _ _ W) ?_
  intro W0 HR' HZ' HB' hs0
  have HR0 : Hid (W0.heap[w.heap.size]? = some (.cells T 42 (0, 0))) := HR'
  have HB0 : Hid (Below w.heap.size w W0) := HB'
  obtain ⟨Z, hZ, HZ0⟩ : ∃ Z : Array Value, Hid (Z.size = 34) ∧ Hid (W0.heap[w.heap.size + 1]? = some (.cells Z 42 (0, 0))) := ⟨zm, zm_size, HZ'⟩
  clear HR' HZ' HB'
  go_wp2_with (refine wpList_load_row_g (by rfl) 42 _ rfl _ rfl 42 _ (0, 0) _ HR0.out Try.underlying42 rfl HI.out ?_)
  refine (C1 _ (hL.out.below (Nat.le_refl _) HB0.out)).mono ?_
  rintro e W1 ⟨rfl, hk⟩
  have HR1 : Hid (W1.heap[w.heap.size]? = some (.cells T 42 (0, 0))) := (hk.block _ (heap_lt HR0.out)).trans HR0.out
  have HZ1 : Hid (W1.heap[w.heap.size + 1]? = some (.cells Z 42 (0, 0))) := (hk.block _ (heap_lt HZ0.out)).trans HZ0.out
  have HB1 : Hid (Below w.heap.size w W1) := HB0.out.trans (hk.mono HB0.out.size)
  have hs1 : w.heap.size + 1 < W1.heap.size := heap_lt HZ1.out
  clear hk HR0 HZ0 HB0 hs0
  have c33 : W1.cell? ⟨w.heap.size, 33, none⟩ = some (.slice a n c) := (cell_of_row _ w.heap.size _ _ _ _ HR1.out).trans hF
  go_upto_region 2 with (refine wpList_skip (by rfl) ?_)
  go_wp2_with (refine wpList_store_row rfl 42 _ _ rfl _ zm rfl rfl 42 _ HZ1.out zm_info (hZ.out.trans zm_size.symm) zm_ones ?_)
  refine bodyPost_ret (v := .tuple #[.agg zm, .int .i64 0, .int .i64 0, .bool false]) ?_ rfl ⟨rfl, below_row HB1.out (by omega) _⟩
  have L2 := run_loadVar_row (P := Try.prog) _ _ 42 42 zm (0, 0) _ (setRow_heap _ _ _ _ _ _ HZ1.out) Try.underlying42 rfl zm_info
  simp [results, Try.results27, asAddr, L2]
set_option maxRecDepth 20000 in
set_option maxHeartbeats 1000000 in
theorem zTake_no4 (T : Array Value) (P : Int) (r f : Nat → Int) (a : Option Addr) (n c : Nat) (hT : Hid (T = mcs P r (.slice a n c)))
    (h0 : T[0]? = some (.int .i64 P)) (hF : T[33]? = some (.slice a n c)) (k : Int) (hn : n ≤ 140737488355328) (hm : Hid (MayBe P n r f)) (hz : 0 < n) (hk1 : ¬ k < 1) (hk2 : 31 < k) (w : World) (hL : Hid (Lie w a n c f)) :
    Calls Try.prog 27 #[.agg T, .int .i64 k] w fun e w' => e = .returned (.tuple #[.agg zm, .int .i64 0, .int .i64 0, .bool false]) ∧ Below w.heap.size w w' := by
  have hz' : ((n : Int) == 0) = false := by simp; omega
  have C1 := fun w => zMay_any T P r f a n c true hT ⟨fun _ => hm.out, fun _ => rfl⟩ h0 hF hn w
  have HI : Hid ((Try.prog.info? 42).map (·.size) = some T.size) := map_info hT.out
  go_enter Try.func27, Try.ntmps27
  go_upto_region 1 with fail
  refine two_new (Φ := fun W => Code.wp _ _ _ _ W) ?_
  intro W0 HR' HZ' HB' hs0
  have HR0 : Hid (W0.heap[w.heap.size]? = some (.cells T 42 (0, 0))) := HR'
  have HB0 : Hid (Below w.heap.size w W0) := HB'
  obtain ⟨Z, hZ, HZ0⟩ : ∃ Z : Array Value, Hid (Z.size = 34) ∧ Hid (W0.heap[w.heap.size + 1]? = some (.cells Z 42 (0, 0))) := ⟨zm, zm_size, HZ'⟩
  clear HR' HZ' HB'
  go_wp2_with (refine wpList_load_row_g (by rfl) 42 _ rfl _ rfl 42 _ (0, 0) _ HR0.out Try.underlying42 rfl HI.out ?_)
  refine (C1 _ (hL.out.below (Nat.le_refl _) HB0.out)).mono ?_
  rintro e W1 ⟨rfl, hk⟩
  have HR1 : Hid (W1.heap[w.heap.size]? = some (.cells T 42 (0, 0))) := (hk.block _ (heap_lt HR0.out)).trans HR0.out
  have HZ1 : Hid (W1.heap[w.heap.size + 1]? = some (.cells Z 42 (0, 0))) := (hk.block _ (heap_lt HZ0.out)).trans HZ0.out
  have HB1 : Hid (Below w.heap.size w W1) := HB0.out.trans (hk.mono HB0.out.size)
  have hs1 : w.heap.size + 1 < W1.heap.size := heap_lt HZ1.out
  clear hk HR0 HZ0 HB0 hs0
  have c33 : W1.cell? ⟨w.heap.size, 33, none⟩ = some (.slice a n c) := (cell_of_row _ w.heap.size _ _ _ _ HR1.out).trans hF
  go_upto_region 2 with fail
  go_wp2_with (refine wpList_store_row rfl 42 _ _ rfl _ zm rfl rfl 42 _ HZ1.out zm_info (hZ.out.trans zm_size.symm) zm_ones ?_)
  refine bodyPost_ret (v := .tuple #[.agg zm, .int .i64 0, .int .i64 0, .bool false]) ?_ rfl ⟨rfl, below_row HB1.out (by omega) _⟩
  have L2 := run_loadVar_row (P := Try.prog) _ _ 42 42 zm (0, 0) _ (setRow_heap _ _ _ _ _ _ HZ1.out) Try.underlying42 rfl zm_info
  simp [results, Try.results27, asAddr, L2]
set_option maxRecDepth 20000 in
set_option maxHeartbeats 1000000 in
theorem zGive_no1 (T : Array Value) (P : Int) (r f : Nat → Int) (a : Option Addr) (n c : Nat) (hT : Hid (T = mcs P r (.slice a n c)))
    (h0 : T[0]? = some (.int .i64 P)) (hF : T[33]? = some (.slice a n c)) (x : Int) (hn : n ≤ 140737488355328) (hm : Hid (¬ (MayBe P n r f ∧ Idle P n r f x))) (w : World) (hL : Hid (Lie w a n c f)) :
    Calls Try.prog 29 #[.agg T, .int .i64 x] w fun e w' => e = .returned (.tuple #[.agg zm, .bool false]) ∧ Below w.heap.size w w' := by
  have C1 := fun w => zother_any T P r f a n c x false hT ⟨fun h => (nomatch h), fun h => absurd h hm.out⟩ h0 hF hn w
  have HI : Hid ((Try.prog.info? 42).map (·.size) = some T.size) := map_info hT.out
  go_enter Try.func29, Try.ntmps29
  go_upto_region 1 with fail
  refine two_new (Φ := fun W => Code.wp _ _ _ _ W) ?_
  intro W0 HR' HZ' HB' hs0
  have HR0 : Hid (W0.heap[w.heap.size]? = some (.cells T 42 (0, 0))) := HR'
  have HB0 : Hid (Below w.heap.size w W0) := HB'
  obtain ⟨Z, hZ, HZ0⟩ : ∃ Z : Array Value, Hid (Z.size = 34) ∧ Hid (W0.heap[w.heap.size + 1]? = some (.cells Z 42 (0, 0))) := ⟨zm, zm_size, HZ'⟩
  clear HR' HZ' HB'
  go_wp2_with (refine wpList_load_row_g (by rfl) 42 _ rfl _ rfl 42 _ (0, 0) _ HR0.out Try.underlying42 rfl HI.out ?_)
  refine (C1 _ (hL.out.below (Nat.le_refl _) HB0.out)).mono ?_
  rintro e W1 ⟨rfl, hk⟩
  have HR1 : Hid (W1.heap[w.heap.size]? = some (.cells T 42 (0, 0))) := (hk.block _ (heap_lt HR0.out)).trans HR0.out
  have HZ1 : Hid (W1.heap[w.heap.size + 1]? = some (.cells Z 42 (0, 0))) := (hk.block _ (heap_lt HZ0.out)).trans HZ0.out
  have HB1 : Hid (Below w.heap.size w W1) := HB0.out.trans (hk.mono HB0.out.size)
  have hs1 : w.heap.size + 1 < W1.heap.size := heap_lt HZ1.out
  clear hk HR0 HZ0 HB0 hs0
  go_upto_region 2 with fail
  go_wp2_with (refine wpList_store_row rfl 42 _ _ rfl _ zm rfl rfl 42 _ HZ1.out zm_info (hZ.out.trans zm_size.symm) zm_ones ?_)
  refine bodyPost_ret (v := .tuple #[.agg zm, .bool false]) ?_ rfl ⟨rfl, below_row HB1.out (by omega) _⟩
  have L2 := run_loadVar_row (P := Try.prog) _ _ 42 42 zm (0, 0) _ (setRow_heap _ _ _ _ _ _ HZ1.out) Try.underlying42 rfl zm_info
  simp [results, Try.results29, asAddr, L2]
set_option maxRecDepth 20000 in
set_option maxHeartbeats 1000000 in
theorem zUndo_no1 (T : Array Value) (P : Int) (r f : Nat → Int) (a : Option Addr) (n c : Nat) (hT : Hid (T = mcs P r (.slice a n c)))
    (h0 : T[0]? = some (.int .i64 P)) (hF : T[33]? = some (.slice a n c)) (k x : Int) (hn : n ≤ 140737488355328) (hm : Hid (¬ (MayBe P n r f ∧ Idle P n r f x))) (w : World) (hL : Hid (Lie w a n c f)) :
    Calls Try.prog 31 #[.agg T, .int .i64 k, .int .i64 x] w fun e w' => e = .returned (.tuple #[.agg zm, .bool false]) ∧ Below w.heap.size w w' := by
  have C1 := fun w => zother_any T P r f a n c x false hT ⟨fun h => (nomatch h), fun h => absurd h hm.out⟩ h0 hF hn w
  have HI : Hid ((Try.prog.info? 42).map (·.size) = some T.size) := map_info hT.out
  go_enter Try.func31, Try.ntmps31
  go_upto_region 1 with fail
  refine two_new (Φ := fun W => Code.wp _ _ _ _ W) ?_
  intro W0 HR' HZ' HB' hs0
  have HR0 : Hid (W0.heap[w.heap.size]? = some (.cells T 42 (0, 0))) := HR'
  have HB0 : Hid (Below w.heap.size w W0) := HB'
  obtain ⟨Z, hZ, HZ0⟩ : ∃ Z : Array Value, Hid (Z.size = 34) ∧ Hid (W0.heap[w.heap.size + 1]? = some (.cells Z 42 (0, 0))) := ⟨zm, zm_size, HZ'⟩
  clear HR' HZ' HB'
  go_wp2_with (refine wpList_load_row_g (by rfl) 42 _ rfl _ rfl 42 _ (0, 0) _ HR0.out Try.underlying42 rfl HI.out ?_)
  refine (C1 _ (hL.out.below (Nat.le_refl _) HB0.out)).mono ?_
  rintro e W1 ⟨rfl, hk⟩
  have HR1 : Hid (W1.heap[w.heap.size]? = some (.cells T 42 (0, 0))) := (hk.block _ (heap_lt HR0.out)).trans HR0.out
  have HZ1 : Hid (W1.heap[w.heap.size + 1]? = some (.cells Z 42 (0, 0))) := (hk.block _ (heap_lt HZ0.out)).trans HZ0.out
  have HB1 : Hid (Below w.heap.size w W1) := HB0.out.trans (hk.mono HB0.out.size)
  have hs1 : w.heap.size + 1 < W1.heap.size := heap_lt HZ1.out
  clear hk HR0 HZ0 HB0 hs0
  go_upto_region 2 with (refine wpList_skip (by rfl) ?_)
  go_wp2_with (refine wpList_store_row rfl 42 _ _ rfl _ zm rfl rfl 42 _ HZ1.out zm_info (hZ.out.trans zm_size.symm) zm_ones ?_)
  refine bodyPost_ret (v := .tuple #[.agg zm, .bool false]) ?_ rfl ⟨rfl, below_row HB1.out (by omega) _⟩
  have L2 := run_loadVar_row (P := Try.prog) _ _ 42 42 zm (0, 0) _ (setRow_heap _ _ _ _ _ _ HZ1.out) Try.underlying42 rfl zm_info
  simp [results, Try.results31, asAddr, L2]
set_option maxRecDepth 20000 in
set_option maxHeartbeats 1000000 in
theorem zUndo_no2 (T : Array Value) (P : Int) (r f : Nat → Int) (a : Option Addr) (n c : Nat) (hT : Hid (T = mcs P r (.slice a n c)))
    (h0 : T[0]? = some (.int .i64 P)) (hF : T[33]? = some (.slice a n c)) (k x : Int) (hn : n ≤ 140737488355328) (hm : Hid (MayBe P n r f ∧ Idle P n r f x)) (hk1 : k < 1) (w : World) (hL : Hid (Lie w a n c f)) :
    Calls Try.prog 31 #[.agg T, .int .i64 k, .int .i64 x] w fun e w' => e = .returned (.tuple #[.agg zm, .bool false]) ∧ Below w.heap.size w w' := by
  have C1 := fun w => zother_any T P r f a n c x true hT ⟨fun _ => hm.out, fun _ => rfl⟩ h0 hF hn w
  have HI : Hid ((Try.prog.info? 42).map (·.size) = some T.size) := map_info hT.out
  go_enter Try.func31, Try.ntmps31
  go_upto_region 1 with fail
  refine two_new (Φ := fun W => Code.wp _ _ _ _ W) ?_
  intro W0 HR' HZ' HB' hs0
  have HR0 : Hid (W0.heap[w.heap.size]? = some (.cells T 42 (0, 0))) := HR'
  have HB0 : Hid (Below w.heap.size w W0) := HB'
  obtain ⟨Z, hZ, HZ0⟩ : ∃ Z : Array Value, Hid (Z.size = 34) ∧ Hid (W0.heap[w.heap.size + 1]? = some (.cells Z 42 (0, 0))) := ⟨zm, zm_size, HZ'⟩
  clear HR' HZ' HB'
  go_wp2_with (refine wpList_load_row_g (by rfl) 42 _ rfl _ rfl 42 _ (0, 0) _ HR0.out Try.underlying42 rfl HI.out ?_)
  refine (C1 _ (hL.out.below (Nat.le_refl _) HB0.out)).mono ?_
  rintro e W1 ⟨rfl, hk⟩
  have HR1 : Hid (W1.heap[w.heap.size]? = some (.cells T 42 (0, 0))) := (hk.block _ (heap_lt HR0.out)).trans HR0.out
  have HZ1 : Hid (W1.heap[w.heap.size + 1]? = some (.cells Z 42 (0, 0))) := (hk.block _ (heap_lt HZ0.out)).trans HZ0.out
  have HB1 : Hid (Below w.heap.size w W1) := HB0.out.trans (hk.mono HB0.out.size)
  have hs1 : w.heap.size + 1 < W1.heap.size := heap_lt HZ1.out
  clear hk HR0 HZ0 HB0 hs0
  go_upto_region 2 with (refine wpList_skip (by rfl) ?_)
  go_wp2_with (refine wpList_store_row rfl 42 _ _ rfl _ zm rfl rfl 42 _ HZ1.out zm_info (hZ.out.trans zm_size.symm) zm_ones ?_)
  refine bodyPost_ret (v := .tuple #[.agg zm, .bool false]) ?_ rfl ⟨rfl, below_row HB1.out (by omega) _⟩
  have L2 := run_loadVar_row (P := Try.prog) _ _ 42 42 zm (0, 0) _ (setRow_heap _ _ _ _ _ _ HZ1.out) Try.underlying42 rfl zm_info
  simp [results, Try.results31, asAddr, L2]
set_option maxRecDepth 20000 in
set_option maxHeartbeats 1000000 in
theorem zUndo_no3 (T : Array Value) (P : Int) (r f : Nat → Int) (a : Option Addr) (n c : Nat) (hT : Hid (T = mcs P r (.slice a n c)))
    (h0 : T[0]? = some (.int .i64 P)) (hF : T[33]? = some (.slice a n c)) (k x : Int) (hn : n ≤ 140737488355328) (hm : Hid (MayBe P n r f ∧ Idle P n r f x)) (hk1 : ¬ k < 1) (hk2 : 31 < k) (w : World) (hL : Hid (Lie w a n c f)) :
    Calls Try.prog 31 #[.agg T, .int .i64 k, .int .i64 x] w fun e w' => e = .returned (.tuple #[.agg zm, .bool false]) ∧ Below w.heap.size w w' := by
  have C1 := fun w => zother_any T P r f a n c x true hT ⟨fun _ => hm.out, fun _ => rfl⟩ h0 hF hn w
  have HI : Hid ((Try.prog.info? 42).map (·.size) = some T.size) := map_info hT.out
  go_enter Try.func31, Try.ntmps31
  go_upto_region 1 with fail
  refine two_new (Φ := fun W => Code.wp _ _ _ _ W) ?_
  intro W0 HR' HZ' HB' hs0
  have HR0 : Hid (W0.heap[w.heap.size]? = some (.cells T 42 (0, 0))) := HR'
  have HB0 : Hid (Below w.heap.size w W0) := HB'
  obtain ⟨Z, hZ, HZ0⟩ : ∃ Z : Array Value, Hid (Z.size = 34) ∧ Hid (W0.heap[w.heap.size + 1]? = some (.cells Z 42 (0, 0))) := ⟨zm, zm_size, HZ'⟩
  clear HR' HZ' HB'
  go_wp2_with (refine wpList_load_row_g (by rfl) 42 _ rfl _ rfl 42 _ (0, 0) _ HR0.out Try.underlying42 rfl HI.out ?_)
  refine (C1 _ (hL.out.below (Nat.le_refl _) HB0.out)).mono ?_
  rintro e W1 ⟨rfl, hk⟩
  have HR1 : Hid (W1.heap[w.heap.size]? = some (.cells T 42 (0, 0))) := (hk.block _ (heap_lt HR0.out)).trans HR0.out
  have HZ1 : Hid (W1.heap[w.heap.size + 1]? = some (.cells Z 42 (0, 0))) := (hk.block _ (heap_lt HZ0.out)).trans HZ0.out
  have HB1 : Hid (Below w.heap.size w W1) := HB0.out.trans (hk.mono HB0.out.size)
  have hs1 : w.heap.size + 1 < W1.heap.size := heap_lt HZ1.out
  clear hk HR0 HZ0 HB0 hs0
  go_upto_region 2 with fail
  go_wp2_with (refine wpList_store_row rfl 42 _ _ rfl _ zm rfl rfl 42 _ HZ1.out zm_info (hZ.out.trans zm_size.symm) zm_ones ?_)
  refine bodyPost_ret (v := .tuple #[.agg zm, .bool false]) ?_ rfl ⟨rfl, below_row HB1.out (by omega) _⟩
  have L2 := run_loadVar_row (P := Try.prog) _ _ 42 42 zm (0, 0) _ (setRow_heap _ _ _ _ _ _ HZ1.out) Try.underlying42 rfl zm_info
  simp [results, Try.results31, asAddr, L2]
end Go.Proofs.Ytpiohehijkpghab
