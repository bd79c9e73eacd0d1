/- Giving a register back, and taking back: the program. -/
import Derived.Test.YtpiohehijkpghabRenJ
namespace Go.Proofs.Ytpiohehijkpghab
open Go.RowKit Go.Maps
open Hy
set_option linter.unusedVariables false
theorem Hid.mk' {p : Prop} (h : p) : Hid p := h
theorem drew2a (w : World) (a b : Obj) : (((w.alloc a).alloc b).drew).heap[w.heap.size]? = some a := heap_alloc2_old _ _ _
theorem drew2b (w : World) (a b : Obj) : (((w.alloc a).alloc b).drew).heap[w.heap.size + 1]? = some b := heap_alloc2_new _ _ _
theorem drew2c (w : World) (a b : Obj) : Below w.heap.size w (((w.alloc a).alloc b).drew) := (((Below.refl _ _).alloc (Nat.le_refl _) _).alloc (by simp) _).drew
theorem drew2d (w : World) (a b : Obj) : w.heap.size + 2 ≤ (((w.alloc a).alloc b).drew).heap.size := by
  show _ ≤ ((w.alloc a).alloc b).heap.size
  simp
set_option maxRecDepth 20000 in
set_option maxHeartbeats 1000000 in
theorem nGive_far (T : Array Value) (P : Int) (r f : Nat → Int) (a : Option Addr) (n c : Nat) (hT : Hid (T = mcs P r (.slice a n c))) (hm : Hid (MayBe P n r f))
    (h0 : T[0]? = some (.int .i64 P)) (hF : T[33]? = some (.slice a n c)) (hR : Hid (Rg r))  (x : Int) (hx : Hid (Idle P n r f x)) (w : World) (hL : Hid (Lie w a n c f)) :
    Calls Try.prog 28 #[.agg T, .int .i64 x] w fun e w' => (∃ a' c', e = .returned (.tuple #[.agg (mcs P r (.slice a' (n + 1) c')), .bool true]) ∧ Lie w' a' (n + 1) c' (en f n x) ∧ Far w.heap.size a') ∧ Below w.heap.size w w' := by
  have hn64 := hm.out.few.2
  have C1 := fun w => nMay_any T P r f a n c true hT ⟨fun _ => hm.out, fun _ => rfl⟩ h0 hF hR (by omega) w
  have C3 := fun w => nidle_any T P r f a n c x true hT ⟨fun _ => hx.out, fun _ => rfl⟩ h0 hF hR hn64 hm.out.high w
  have HI : Hid ((Try.prog.info? 42).map (·.size) = some T.size) := map_info hT.out
  go_enter Try.func28, Try.ntmps28
  go_upto_region 1 with fail
  refine two_new (Φ := fun W => Code.wp _ _ _ _ W) ?_
  intro W0 HR' HZ' HB' hs0
  have HR0 : Hid (W0.heap[w.heap.size]? = some (.cells T 42 (0, 0))) := HR'
  have HB0 : Hid (Below w.heap.size w W0) := HB'
  obtain ⟨Z, hZ, HZ0⟩ : ∃ Z : Array Value, Hid (Z.size = 34) ∧ Hid (W0.heap[w.heap.size + 1]? = some (.cells Z 42 (0, 0))) := ⟨zm, zm_size, HZ'⟩
  clear HR' HZ' HB'
  go_wp2_with (refine wpList_load_row_g (by rfl) 42 _ rfl _ rfl 42 _ (0, 0) _ HR0.out Try.underlying42 rfl HI.out ?_)
  refine (C1 _ (hL.out.below (Nat.le_refl _) HB0.out)).mono ?_
  rintro e W1 ⟨rfl, hk⟩
  have HR1 : Hid (W1.heap[w.heap.size]? = some (.cells T 42 (0, 0))) := (hk.block _ (heap_lt HR0.out)).trans HR0.out
  have HZ1 : Hid (W1.heap[w.heap.size + 1]? = some (.cells Z 42 (0, 0))) := (hk.block _ (heap_lt HZ0.out)).trans HZ0.out
  have HB1 : Hid (Below w.heap.size w W1) := HB0.out.trans (hk.mono HB0.out.size)
  have hs1 : w.heap.size + 1 < W1.heap.size := heap_lt HZ1.out
  clear hk HR0 HZ0 HB0 hs0
  go_wp2_with (refine wpList_load_row_g (by rfl) 42 _ rfl _ rfl 42 _ (0, 0) _ HR1.out Try.underlying42 rfl HI.out ?_)
  refine (C3 _ (hL.out.below (Nat.le_refl _) HB1.out)).mono ?_
  rintro e W2 ⟨rfl, hk⟩
  have HR2 : Hid (W2.heap[w.heap.size]? = some (.cells T 42 (0, 0))) := (hk.block _ (heap_lt HR1.out)).trans HR1.out
  have HZ2 : Hid (W2.heap[w.heap.size + 1]? = some (.cells Z 42 (0, 0))) := (hk.block _ (heap_lt HZ1.out)).trans HZ1.out
  have HB2 : Hid (Below w.heap.size w W2) := HB1.out.trans (hk.mono HB1.out.size)
  have hs2 : w.heap.size + 1 < W2.heap.size := heap_lt HZ2.out
  clear hk HR1 HZ1 HB1 hs1
  have c33 : W2.cell? ⟨w.heap.size, 33, none⟩ = some (.slice a n c) := (cell_of_row _ w.heap.size _ _ _ _ HR2.out).trans hF
  go_wp2_with fail
  refine two_new (w := W2) (Φ := fun W => Calls _ _ _ W _) ?_
  intro W3 ha hb3 hk hs3
  have l1 : Hid (Lie W3 a n c f) := hL.out.below (Nat.le_refl _) (HB2.out.trans (hk.mono HB2.out.size))
  have l2 : Hid (Lie W3 (some ⟨W2.heap.size, 0, none⟩) 1 1 (fun _ => x)) := by
    refine ⟨Nat.le_refl _, by unfold maxLen; omega, fun h => (nomatch h), fun i hi => WalkArith.wf_i64 (by have := hx.out.lo; have := hx.out.hi; have := hm.out.high; omega), fun y hy _ => ⟨W2.heap.size, 0, (Option.some.inj hy).symm, fun i hi => ?_⟩⟩
    obtain rfl : i = 0 := by omega
    rw [cell_of_row _ _ _ _ _ _ ha]
    rfl
  have e0 : W3.cell? ⟨W2.heap.size + 1, 0, none⟩ = some (.slice a n c) := by rw [cell_of_row _ _ _ _ _ _ hb3]; rfl
  have e1 : W3.cell? ⟨W2.heap.size + 1, 1, none⟩ = some (.slice (some ⟨W2.heap.size, 0, none⟩) 1 1) := by rw [cell_of_row _ _ _ _ _ _ hb3]; rfl
  refine (iConcat_two (W2.heap.size + 1) a (some ⟨W2.heap.size, 0, none⟩) n c 1 1 f (fun _ => x) (by omega) (by omega) W3 (by omega) e0 e1 l1 l2).mono ?_
  rintro e W4 ⟨⟨a', c', rfl, hl, hfar⟩, hk4⟩
  have HL4 : Hid (Lie W4 a' (n + 1) c' (cat f n (fun _ => x))) := hl
  have HA4 : Hid (Far (w.heap.size + 2) a') := hfar.mono (by omega)
  clear hl hfar l1 l2 e0 e1 ha hb3 c33
  have HR3 : Hid (W3.heap[w.heap.size]? = some (.cells T 42 (0, 0))) := (hk.block _ (heap_lt HR2.out)).trans HR2.out
  have HZ3 : Hid (W3.heap[w.heap.size + 1]? = some (.cells Z 42 (0, 0))) := (hk.block _ (heap_lt HZ2.out)).trans HZ2.out
  have HB3 : Hid (Below w.heap.size w W3) := HB2.out.trans (hk.mono HB2.out.size)
  have hs3b : w.heap.size + 1 < W3.heap.size := heap_lt HZ3.out
  clear hk HR2 HZ2 HB2 hs2 hs3b
  have HR4 : Hid (W4.heap[w.heap.size]? = some (.cells T 42 (0, 0))) := (hk4.block _ (heap_lt HR3.out)).trans HR3.out
  have HZ4 : Hid (W4.heap[w.heap.size + 1]? = some (.cells Z 42 (0, 0))) := (hk4.block _ (heap_lt HZ3.out)).trans HZ3.out
  have HB4 : Hid (Below w.heap.size w W4) := HB3.out.trans (hk4.mono HB3.out.size)
  have hs4 : w.heap.size + 1 < W4.heap.size := heap_lt HZ4.out
  clear hk4 HR3 HZ3 HB3 hs3
  obtain ⟨M, hM⟩ : ∃ M, Hid (M = mcs P r (.slice a' (n + 1) c')) := ⟨_, rfl⟩
  have eM : T.setIfInBounds 33 (.slice a' (n + 1) c') = M := by rw [hM.out, hT.out, set_F]
  have c33 : W4.cell? ⟨w.heap.size, 33, none⟩ = some (.slice a n c) := (cell_of_row _ w.heap.size _ _ _ _ HR4.out).trans hF
  have hf : ∀ j, W4.frozen? ⟨w.heap.size, j, none⟩ = false := fun j => frozen_of_row _ _ j _ _ HR4.out
  have HR5 : Hid ((W4.setCell ⟨w.heap.size, 33, none⟩ (.slice a' (n + 1) c')).heap[w.heap.size]? = some (.cells M 42 (0, 0))) := by rw [← eM]; exact (row_setCell HR4.out)
  have HZ5 : Hid ((W4.setCell ⟨w.heap.size, 33, none⟩ (.slice a' (n + 1) c')).heap[w.heap.size + 1]? = some (.cells Z 42 (0, 0))) := (row_setCell_other HZ4.out (by omega))
  have HB5 : Hid (Below w.heap.size w (W4.setCell ⟨w.heap.size, 33, none⟩ (.slice a' (n + 1) c'))) := (HB4.out.setCell (Nat.le_refl _) _)
  have MI : Hid ((Try.prog.info? 42).map (·.size) = some M.size) := map_info hM.out
  have MO : Hid (M.all (·.oneCell') = true) := by show _ = _; rw [hM.out]; exact ones_mcs _ _ _ _ _
  have MZ : Hid (Z.size = M.size) := by show _ = _; rw [hM.out, hZ.out]; rfl
  clear eM HR4 HZ4 HB4
  go_wp2_with (first | (refine wpList_load_row_g (by rfl) 42 _ rfl _ rfl 42 _ (0, 0) _ HR5.out Try.underlying42 rfl MI.out ?_) | (refine wpList_store_row rfl 42 _ _ rfl _ _ rfl rfl 42 _ HZ5.out MI.out MZ.out MO.out ?_))
  refine bodyPost_ret (v := .tuple #[.agg M, .bool true]) ?_ rfl ⟨⟨a', c', by rw [hM.out], ?_, HA4.out.mono (by omega)⟩, ?_⟩
  · have L2 := run_loadVar_row (P := Try.prog) _ _ 42 42 M (0, 0) _ (setRow_heap _ _ _ _ _ _ HZ5.out) Try.underlying42 rfl MI.out
    simp [results, Try.results28, asAddr, L2]
  · refine HL4.out.moved fun y hy => ?_
    have := HA4.out y hy
    rw [setRow_other _ _ _ _ (by omega)]
    exact heap_set_other _ (by omega)
  · exact below_row HB5.out (by omega) _
theorem nGive_yes (T : Array Value) (P : Int) (r f : Nat → Int) (a : Option Addr) (n c : Nat) (hT : Hid (T = mcs P r (.slice a n c))) (hm : Hid (MayBe P n r f))
    (h0 : T[0]? = some (.int .i64 P)) (hF : T[33]? = some (.slice a n c)) (hR : Hid (Rg r)) (x : Int) (hx : Hid (Idle P n r f x)) (w : World) (hL : Hid (Lie w a n c f)) :
    Calls Try.prog 28 #[.agg T, .int .i64 x] w fun e w' => (∃ a' c', e = .returned (.tuple #[.agg (mcs P r (.slice a' (n + 1) c')), .bool true]) ∧ Lie w' a' (n + 1) c' (en f n x)) ∧ Below w.heap.size w w' :=
  (nGive_far T P r f a n c hT hm h0 hF hR x hx w hL).mono fun e w' ⟨⟨a', c', h1, h2, _⟩, h3⟩ => ⟨⟨a', c', h1, h2⟩, h3⟩
end Go.Proofs.Ytpiohehijkpghab
