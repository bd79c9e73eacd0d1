/- Taking back: the program. -/
import Derived.Test.YtpiohehijkpghabRenK
namespace Go.Proofs.Ytpiohehijkpghab
open Go.RowKit Go.Maps
open Hy
set_option linter.unusedVariables false
set_option maxRecDepth 20000 in
set_option maxHeartbeats 1000000 in
theorem nUndo_yes (T : Array Value) (P : Int) (r f : Nat → Int) (a : Option Addr) (n c : Nat) (hT : Hid (T = mcs P r (.slice a n c))) (hm : Hid (MayBe P n r f))
    (h0 : T[0]? = some (.int .i64 P)) (hF : T[33]? = some (.slice a n c)) (hR : Hid (Rg r)) (k : Nat) (k0 : 1 ≤ k) (k1 : k < 32) (x : Int) (hx : Hid (Idle P n r f x)) (w : World) (hL : Hid (Lie w a n c f)) :
    Calls Try.prog 30 #[.agg T, .int .i64 k, .int .i64 x] w fun e w' => (∃ a' c', e = .returned (.tuple #[.agg (mcs P (up r k x) (.slice a' (n + 1) c')), .bool true]) ∧ Lie w' a' (n + 1) c' (hd (r k) f)) ∧ Below w.heap.size w w' := by
  have hn64 := hm.out.few.2
  have C1 := fun w => nMay_any T P r f a n c true hT ⟨fun _ => hm.out, fun _ => rfl⟩ h0 hF hR (by omega) w
  have C3 := fun w => nidle_any T P r f a n c x true hT ⟨fun _ => hx.out, fun _ => rfl⟩ h0 hF hR hn64 hm.out.high w
  have HI : Hid ((Try.prog.info? 42).map (·.size) = some T.size) := map_info hT.out
  have C2 := nnamed_any (k : Int)
  rw [decide_eq_true (⟨by omega, by omega⟩ : (1 : Int) ≤ k ∧ (k : Int) < 32)] at C2
  have hcR : T[1 + k]? = some (.int .i64 (r k)) := by rw [hT.out]; exact mcs_R _ _ _ _ k1
  go_enter Try.func30, Try.ntmps30
  go_upto_region 1 with fail
  refine two_new (Φ := fun W => Code.wp _ _ _ _ W) ?_
  intro W0 HR' HZ' HB' hs0
  have HR0 : Hid (W0.heap[w.heap.size]? = some (.cells T 42 (0, 0))) := HR'
  have HB0 : Hid (Below w.heap.size w W0) := HB'
  obtain ⟨Z, hZ, HZ0⟩ : ∃ Z : Array Value, Hid (Z.size = 34) ∧ Hid (W0.heap[w.heap.size + 1]? = some (.cells Z 42 (0, 0))) := ⟨zm, zm_size, HZ'⟩
  clear HR' HZ' HB'
  go_wp2_with (refine wpList_load_row_g (by rfl) 42 _ rfl _ rfl 42 _ (0, 0) _ HR0.out Try.underlying42 rfl HI.out ?_)
  refine (C1 _ (hL.out.below (Nat.le_refl _) HB0.out)).mono ?_
  rintro e W1 ⟨rfl, hk⟩
  have HR1 : Hid (W1.heap[w.heap.size]? = some (.cells T 42 (0, 0))) := (hk.block _ (heap_lt HR0.out)).trans HR0.out
  have HZ1 : Hid (W1.heap[w.heap.size + 1]? = some (.cells Z 42 (0, 0))) := (hk.block _ (heap_lt HZ0.out)).trans HZ0.out
  have HB1 : Hid (Below w.heap.size w W1) := HB0.out.trans (hk.mono HB0.out.size)
  have hs1 : w.heap.size + 1 < W1.heap.size := heap_lt HZ1.out
  clear hk HR0 HZ0 HB0 hs0
  go_wp2_with fail
  refine (C2 _).mono ?_
  rintro e w' ⟨rfl, rfl⟩
  obtain ⟨W1, hW1⟩ : ∃ W1, W1 = w' := ⟨_, rfl⟩
  rw [← hW1] at HR1 HZ1 HB1 hs1 ⊢
  clear hW1
  go_wp2_with (refine wpList_load_row_g (by rfl) 42 _ rfl _ rfl 42 _ (0, 0) _ HR1.out Try.underlying42 rfl HI.out ?_)
  refine (C3 _ (hL.out.below (Nat.le_refl _) HB1.out)).mono ?_
  rintro e W2 ⟨rfl, hk⟩
  have HR2 : Hid (W2.heap[w.heap.size]? = some (.cells T 42 (0, 0))) := (hk.block _ (heap_lt HR1.out)).trans HR1.out
  have HZ2 : Hid (W2.heap[w.heap.size + 1]? = some (.cells Z 42 (0, 0))) := (hk.block _ (heap_lt HZ1.out)).trans HZ1.out
  have HB2 : Hid (Below w.heap.size w W2) := HB1.out.trans (hk.mono HB1.out.size)
  have hs2 : w.heap.size + 1 < W2.heap.size := heap_lt HZ2.out
  clear hk HR1 HZ1 HB1 hs1
  have c33 : W2.cell? ⟨w.heap.size, 33, none⟩ = some (.slice a n c) := (cell_of_row _ w.heap.size _ _ _ _ HR2.out).trans hF
  have cR : W2.cell? ⟨w.heap.size, 1 + k, none⟩ = some (.int .i64 (r k)) := (cell_of_row _ w.heap.size _ _ _ _ HR2.out).trans hcR
  have C4 : ∀ W3 : World, W3.heap[W2.heap.size]? = some (.cells #[.int .i64 (r k)] 3 (0, 0)) → W3.heap[W2.heap.size + 1]? = some (.cells #[.slice (some ⟨W2.heap.size, 0, none⟩) 1 1, .slice a n c] 40 (0, 0)) → Below W2.heap.size W2 W3 → W2.heap.size + 2 ≤ W3.heap.size →
      Calls Try.prog 61 #[.slice (some ⟨W2.heap.size + 1, 0, none⟩) 2 2] W3 fun e W4 => ∃ a' c', e = .returned (.slice a' (1 + n) c') ∧ Hid (Lie W4 a' (1 + n) c' (cat (fun _ => r k) 1 f)) ∧ Hid (Far (w.heap.size + 2) a') ∧ Hid (W4.heap[w.heap.size]? = some (.cells T 42 (0, 0))) ∧ Hid (W4.heap[w.heap.size + 1]? = some (.cells Z 42 (0, 0))) ∧ Hid (Below w.heap.size w W4)
        ∧ W4.cell? ⟨w.heap.size, 33, none⟩ = some (.slice a n c) ∧ W4.cell? ⟨w.heap.size, 1 + k, none⟩ = some (.int .i64 (r k)) ∧ (∀ j, W4.frozen? ⟨w.heap.size, j, none⟩ = false) := by
    intro W3 ha hb3 hk hs3
    have l1 : Hid (Lie W3 a n c f) := hL.out.below (Nat.le_refl _) (HB2.out.trans (hk.mono HB2.out.size))
    have l2 : Hid (Lie W3 (some ⟨W2.heap.size, 0, none⟩) 1 1 (fun _ => r k)) := by
      refine ⟨Nat.le_refl _, by unfold maxLen; omega, fun h => (nomatch h), fun i hi => hR.out k k1, fun y hy _ => ⟨W2.heap.size, 0, (Option.some.inj hy).symm, fun i hi => ?_⟩⟩
      obtain rfl : i = 0 := by omega
      rw [cell_of_row _ _ _ _ _ _ ha]
      rfl
    have e0 : W3.cell? ⟨W2.heap.size + 1, 0, none⟩ = some (.slice (some ⟨W2.heap.size, 0, none⟩) 1 1) := by rw [cell_of_row _ _ _ _ _ _ hb3]; rfl
    have e1 : W3.cell? ⟨W2.heap.size + 1, 1, none⟩ = some (.slice a n c) := by rw [cell_of_row _ _ _ _ _ _ hb3]; rfl
    refine (iConcat_two (W2.heap.size + 1) (some ⟨W2.heap.size, 0, none⟩) a 1 1 n c (fun _ => r k) f (by omega) (by omega) W3 (by omega) e0 e1 l2 l1).mono ?_
    rintro e W4 ⟨⟨a', c', rfl, hl, hfar⟩, hk4⟩
    have r4 : W4.heap[w.heap.size]? = some (.cells T 42 (0, 0)) := (hk4.block _ (by omega)).trans ((hk.block _ (by omega)).trans HR2.out)
    have z4 : W4.heap[w.heap.size + 1]? = some (.cells Z 42 (0, 0)) := (hk4.block _ (by omega)).trans ((hk.block _ (by omega)).trans HZ2.out)
    exact ⟨a', c', rfl, hl, hfar.mono (by omega), r4, z4, HB2.out.trans ((hk.mono HB2.out.size).trans (hk4.mono (by omega))), (cell_of_row _ w.heap.size _ _ _ _ r4).trans hF, (cell_of_row _ w.heap.size _ _ _ _ r4).trans hcR, fun j => frozen_of_row _ _ j _ _ r4⟩
  have HC4 := Hid.mk' C4
  have hs2' : w.heap.size < W2.heap.size := by omega
  have hs2b : (W2.cell? ⟨w.heap.size, 33, none⟩).isSome = true := by rw [c33]; rfl
  have hs2c : (W2.cell? ⟨w.heap.size, 1 + k, none⟩).isSome = true := by rw [cR]; rfl
  clear C4 C1 C2 C3
  go_wp2_with fail
  go_region_with (go_at_call 61; refine (HC4.out _ (drew2a _ _ _) (drew2b _ _ _) (drew2c _ _ _) (drew2d _ _ _)).mono ?_; rintro e W4 ⟨a', c', rfl, HL4, HA4, HR4, HZ4, HB4, c33, cR, hf⟩)
  all_goals
    have hs4 : w.heap.size + 1 < W4.heap.size := heap_lt HZ4.out
    obtain ⟨M, hM⟩ : ∃ M, Hid (M = mcs P (up r k x) (.slice a' (1 + n) c')) := ⟨_, rfl⟩
    have eM : (T.setIfInBounds 33 (.slice a' (1 + n) c')).setIfInBounds (1 + k) (.int .i64 x) = M := by rw [hM.out, hT.out, set_F, set_R _ _ _ _ _ k1]
    have HR5 : Hid (((W4.setCell ⟨w.heap.size, 33, none⟩ (.slice a' (1 + n) c')).setCell ⟨w.heap.size, 1 + k, none⟩ (.int .i64 x)).heap[w.heap.size]? = some (.cells M 42 (0, 0))) := by rw [← eM]; exact (row_setCell (row_setCell HR4.out))
    have HZ5 : Hid (((W4.setCell ⟨w.heap.size, 33, none⟩ (.slice a' (1 + n) c')).setCell ⟨w.heap.size, 1 + k, none⟩ (.int .i64 x)).heap[w.heap.size + 1]? = some (.cells Z 42 (0, 0))) := (row_setCell_other (row_setCell_other HZ4.out (by omega)) (by omega))
    have HB5 : Hid (Below w.heap.size w ((W4.setCell ⟨w.heap.size, 33, none⟩ (.slice a' (1 + n) c')).setCell ⟨w.heap.size, 1 + k, none⟩ (.int .i64 x))) := ((HB4.out.setCell (Nat.le_refl _) _).setCell (Nat.le_refl _) _)
    have MI : Hid ((Try.prog.info? 42).map (·.size) = some M.size) := map_info hM.out
    have MO : Hid (M.all (·.oneCell') = true) := by show _ = _; rw [hM.out]; exact ones_mcs _ _ _ _ _
    have MZ : Hid (Z.size = M.size) := by show _ = _; rw [hM.out, hZ.out]; rfl
    clear eM HR4 HZ4 HB4
    go_wp2_with (first | (refine wpList_load_row_g (by rfl) 42 _ rfl _ rfl 42 _ (0, 0) _ HR5.out Try.underlying42 rfl MI.out ?_) | (refine wpList_store_row rfl 42 _ _ rfl _ _ rfl rfl 42 _ HZ5.out MI.out MZ.out MO.out ?_))
    refine bodyPost_ret (v := .tuple #[.agg M, .bool true]) ?_ rfl ⟨⟨a', c', by rw [hM.out]; rw [Nat.add_comm 1 n], ?_⟩, ?_⟩
    · have L2 := run_loadVar_row (P := Try.prog) _ _ 42 42 M (0, 0) _ (setRow_heap _ _ _ _ _ _ HZ5.out) Try.underlying42 rfl MI.out
      simp [results, Try.results30, asAddr, L2]
    · rw [Nat.add_comm n 1]
      refine Lie.congr (f := cat (fun _ => r k) 1 f) (HL4.out.moved fun y hy => ?_) (fun i _ => by unfold cat hd; by_cases h : i = 0 <;> simp [h])
      have := HA4.out y hy
      rw [setRow_other _ _ _ _ (by omega)]
      exact (heap_set_other _ (by omega)).trans (heap_set_other _ (by omega))
    · exact below_row HB5.out (by omega) _
end Go.Proofs.Ytpiohehijkpghab
