/- What the program learns of a word: the table. -/
import Derived.Test.YtoajbcigenjmmabGueE
import Derived.Deep.Cut
namespace Go.Proofs.Ytoajbcigenjmmab
open Go.RowKit
open Hy
set_option linter.unusedVariables false
/-- The empty table. -/
abbrev zt : Array Value := tcs ⟨fun _ => 0, fun _ => 0, fun _ => 0, fun _ => 0, fun _ => 0, fun _ => 0⟩
theorem zt_size : zt.size = 64 := rfl
theorem row_setCell {w : World} {b i : Nat} {cs : Array Value} {t : TypeId} {fr : Nat × Nat} {v : Value} (h : w.heap[b]? = some (.cells cs t fr)) : (w.setCell ⟨b, i, none⟩ v).heap[b]? = some (.cells (cs.setIfInBounds i v) t fr) := by
  simp [World.setCell, Array.getElem?_modify, h]
theorem row_setCell_other {w : World} {b g i : Nat} {o : Obj} {v : Value} (h : w.heap[g]? = some o) (hne : b ≠ g) : (w.setCell ⟨b, i, none⟩ v).heap[g]? = some o := by
  simp [World.setCell, Array.getElem?_modify, h, hne]
theorem row4 {w : World} {b i0 i1 i2 i3 : Nat} {cs : Array Value} {t : TypeId} {fr : Nat × Nat} {v0 v1 v2 v3 : Value} (h : w.heap[b]? = some (.cells cs t fr)) : ((((w.setCell ⟨b, i0, none⟩ v0).setCell ⟨b, i1, none⟩ v1).setCell ⟨b, i2, none⟩ v2).setCell ⟨b, i3, none⟩ v3).heap[b]? = some (.cells ((((cs.setIfInBounds i0 v0).setIfInBounds i1 v1).setIfInBounds i2 v2).setIfInBounds i3 v3) t fr) := row_setCell (row_setCell (row_setCell (row_setCell h)))
theorem row4o {w : World} {b g i0 i1 i2 i3 : Nat} {o : Obj} {v0 v1 v2 v3 : Value} (h : w.heap[g]? = some o) (hne : b ≠ g) : ((((w.setCell ⟨b, i0, none⟩ v0).setCell ⟨b, i1, none⟩ v1).setCell ⟨b, i2, none⟩ v2).setCell ⟨b, i3, none⟩ v3).heap[g]? = some o := row_setCell_other (row_setCell_other (row_setCell_other (row_setCell_other h hne) hne) hne) hne
theorem below4 {w w2 : World} {i0 i1 i2 i3 : Nat} {v0 v1 v2 v3 : Value} (h : Below w.heap.size w w2) : Below w.heap.size w ((((w2.setCell ⟨w.heap.size, i0, none⟩ v0).setCell ⟨w.heap.size, i1, none⟩ v1).setCell ⟨w.heap.size, i2, none⟩ v2).setCell ⟨w.heap.size, i3, none⟩ v3) := (((h.setCell (Nat.le_refl _) _).setCell (Nat.le_refl _) _).setCell (Nat.le_refl _) _).setCell (Nat.le_refl _) _

set_option maxRecDepth 20000 in
set_option maxHeartbeats 1000000 in
theorem gLearnValue_any (T : Array Value) (hT : Hid (Tbl T)) (pc v : Int) (p0 : 0 ≤ pc) (p1 : pc ≤ 4294967295) (v0 : 0 ≤ v) (v1 : v ≤ 4294967295) (P A S U X Y : Int) (a0 : 0 ≤ A) (a1 : A ≤ 4294967295) (s0 : 0 ≤ S) (s1 : S ≤ 4294967295) (k : Nat) (hk : k < 8) (he : Hid ((k : Int) = pc / 4 % 8))
   (hX : Hid (X = lS P A S pc v)) (hY : Hid (Y = lU P A S U pc v))
   (hP : T[32 + k * 4]? = some (.int .u32 P)) (hA : T[32 + k * 4 + 1]? = some (.int .u32 A)) (hS : T[32 + k * 4 + 2]? = some (.int .u32 S)) (hU : T[32 + k * 4 + 3]? = some (.int .i64 U)) (w : World) :
    Calls Try.prog 11 #[.agg T, .int .u32 pc, .int .u32 v] w fun e w' => e = .returned (.agg ((((T.setIfInBounds (32 + k * 4) (.int .u32 pc)).setIfInBounds (32 + k * 4 + 1) (.int .u32 v)).setIfInBounds (32 + k * 4 + 2) (.int .u32 X)).setIfInBounds (32 + k * 4 + 3) (.int .i64 Y))) ∧ Below w.heap.size w w' := by
  have C := gvalueOf_any pc p0 p1
  have D := glearnt_any pc v P A S U X Y a0 a1 s0 s1 v0 v1 hX hY
  rw [← he.out] at C
  have k0 : (0 : Int) ≤ (k : Int) := by omega
  have k1 : (k : Int) < 8 := by omega
  have HD : Hid (Tbl ((((T.setIfInBounds (32 + k * 4) (.int .u32 pc)).setIfInBounds (32 + k * 4 + 1) (.int .u32 v)).setIfInBounds (32 + k * 4 + 2) (.int .u32 X)).setIfInBounds (32 + k * 4 + 3) (.int .i64 Y))) := (((hT.out.set _ _ _).set _ _ _).set _ _ _).set _ _ _
  go_enter Try.func11, Try.ntmps11
  go_wp2_with fail
  refine (C _).mono ?_
  rintro e w' ⟨rfl, rfl⟩
  go_wp2_with fail
  refine (D _).mono ?_
  rintro e w2 ⟨rfl, hk⟩
  have hs2 := hk.size
  simp at hs2
  have hb0 : Below w.heap.size w w2 := (((Below.refl _ _).alloc (Nat.le_refl _) _).alloc (by simp) _).trans (hk.mono (by simp; omega))
  have hrow : w2.heap[w.heap.size]? = some (.cells T 30 (0, 0)) := (hk.block _ (by simp; omega)).trans (heap_alloc2_old _ _ _)
  obtain ⟨Z, hZ, hres⟩ : ∃ Z : Array Value, Hid (Z.size = 64) ∧ w2.heap[w.heap.size + 1]? = some (.cells Z 30 (0, 0)) := ⟨zt, zt_size, (hk.block _ (by simp)).trans (heap_alloc2_new _ _ _)⟩
  have c0 := (cell_of_row w2 w.heap.size _ _ _ _ hrow).trans hP
  have c1 := (cell_of_row w2 w.heap.size _ _ _ _ hrow).trans hA
  have c2 := (cell_of_row w2 w.heap.size _ _ _ _ hrow).trans hS
  have c3 := (cell_of_row w2 w.heap.size _ _ _ _ hrow).trans hU
  have hf : ∀ j, w2.frozen? ⟨w.heap.size, j, none⟩ = false := fun j => frozen_of_row _ _ j _ _ hrow
  have HR : Hid (w2.heap[w.heap.size]? = some (.cells T 30 (0, 0))) := hrow
  have HZ : Hid (w2.heap[w.heap.size + 1]? = some (.cells Z 30 (0, 0))) := hres
  have hs3 : w.heap.size < w2.heap.size := by omega
  have hs4 : w.heap.size + 1 < w2.heap.size := by omega
  clear hk hrow hres hs2 C D hX hY hP hA hS hU
  have HR4 : Hid (((((w2.setCell ⟨w.heap.size, 32 + k * 4, none⟩ (.int .u32 pc)).setCell ⟨w.heap.size, 32 + k * 4 + 1, none⟩ (.int .u32 v)).setCell ⟨w.heap.size, 32 + k * 4 + 2, none⟩ (.int .u32 X)).setCell ⟨w.heap.size, 32 + k * 4 + 3, none⟩ (.int .i64 Y)).heap[w.heap.size]? = some (.cells ((((T.setIfInBounds (32 + k * 4) (.int .u32 pc)).setIfInBounds (32 + k * 4 + 1) (.int .u32 v)).setIfInBounds (32 + k * 4 + 2) (.int .u32 X)).setIfInBounds (32 + k * 4 + 3) (.int .i64 Y)) 30 (0, 0))) := row4 HR.out
  have HZ4 : Hid (((((w2.setCell ⟨w.heap.size, 32 + k * 4, none⟩ (.int .u32 pc)).setCell ⟨w.heap.size, 32 + k * 4 + 1, none⟩ (.int .u32 v)).setCell ⟨w.heap.size, 32 + k * 4 + 2, none⟩ (.int .u32 X)).setCell ⟨w.heap.size, 32 + k * 4 + 3, none⟩ (.int .i64 Y)).heap[w.heap.size + 1]? = some (.cells Z 30 (0, 0))) := row4o HZ.out (by omega)
  have HB4 : Hid (Below w.heap.size w ((((w2.setCell ⟨w.heap.size, 32 + k * 4, none⟩ (.int .u32 pc)).setCell ⟨w.heap.size, 32 + k * 4 + 1, none⟩ (.int .u32 v)).setCell ⟨w.heap.size, 32 + k * 4 + 2, none⟩ (.int .u32 X)).setCell ⟨w.heap.size, 32 + k * 4 + 3, none⟩ (.int .i64 Y))) := below4 hb0
  clear hb0 HR HZ
  go_upto_region 3 with fail
  go_wp2_with (first | (refine wpList_load_row rfl 30 _ rfl _ rfl 30 _ (0, 0) _ HR4.out Try.underlying30 rfl HD.out.info ?_) | (refine wpList_store_row rfl 30 _ _ rfl _ _ rfl rfl 30 _ HZ4.out HD.out.info (hZ.out.trans HD.out.size.symm) HD.out.ones ?_))
  exact bodyPost_ret (v := .agg _) (results_cell_row Try.results11 _ _ _ 30 _ (0, 0) _ rfl (setRow_heap _ _ _ _ _ _ HZ4.out) Try.underlying30 rfl HD.out.info) rfl ⟨rfl, below_row HB4.out (by omega) _⟩
end Go.Proofs.Ytoajbcigenjmmab
