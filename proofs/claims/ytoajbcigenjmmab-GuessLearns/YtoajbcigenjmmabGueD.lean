/- What the program learns of a branch. -/
import Derived.Test.YtoajbcigenjmmabGueB
namespace Go.Proofs.Ytoajbcigenjmmab
open Go.RowKit
open Hy
set_option linter.unusedVariables false
theorem size_table : (Try.prog.info? 30).map (·.size) = some 64 := by kernel_rfl
/-- A row of cells that holds no pointer, as a store asks. -/
def Ones (H : Array Value) : Prop := H.all (·.oneCell') = true

theorem Ones.set {H : Array Value} (h : Ones H) (i : Nat) (v : Value) (hv : v.oneCell' = true) : Ones (H.setIfInBounds i v) := by
  unfold Ones at *
  rw [Array.all_eq_true_iff_forall_mem] at *
  intro x hx
  obtain ⟨j, hj, e⟩ := Array.getElem_of_mem hx
  have hj' : j < H.size := by simpa using hj
  rw [Array.getElem_setIfInBounds hj'] at e
  split at e
  · rw [← e]; exact hv
  · rw [← e]; exact h _ (Array.getElem_mem hj')
theorem below_row {B : Nat} {a w : World} (h : Below B a w) {g : Nat} (hg : B ≤ g) (cs : Array Value) : Below B a (w.setRow g cs) :=
  ⟨h.os, h.tape, h.output, by simpa using h.size, fun k hk => (setRow_other _ _ _ _ (by omega)).trans (h.block k hk)⟩
/-- A table by value. -/
structure Tbl (T : Array Value) : Prop where
  size : T.size = 64
  ones : Ones T
theorem Tbl.set {T : Array Value} (h : Tbl T) (i : Nat) (k : IntKind) (v : Int) : Tbl (T.setIfInBounds i (.int k v)) := ⟨by simp [h.size], h.ones.set _ _ rfl⟩
theorem Tbl.info {T : Array Value} (h : Tbl T) : (Try.prog.info? 30).map (·.size) = some T.size := by rw [size_table, h.size]

set_option maxRecDepth 20000 in
set_option maxHeartbeats 1000000 in
theorem gLearnBranch_yes (T : Array Value) (hT : Hid (Tbl T)) (pc tg : Int) (p0 : 0 ≤ pc) (p1 : pc ≤ 4294967295) (L G N : Int) (k : Nat) (hk : k < 16) (he : Hid ((k : Int) = pc / 4 % 16)) (hN : Hid (N = bnd (bnd L + 1)))
   (hL : T[k * 2]? = some (.int .i64 L)) (hG : T[k * 2 + 1]? = some (.int .u32 G)) (w : World) :
    Calls Try.prog 10 #[.agg T, .int .u32 pc, .bool true, .int .u32 tg] w fun e w' => e = .returned (.agg ((T.setIfInBounds (k * 2) (.int .i64 N)).setIfInBounds (k * 2 + 1) (.int .u32 tg))) ∧ Below w.heap.size w w' := by
  have C := gcounterOf_any pc p0 p1
  have D := gmore_any L
  rw [← he.out] at C
  rw [← hN.out] at D
  have k0 : (0 : Int) ≤ (k : Int) := by omega
  have k1 : (k : Int) < 16 := by omega
  have HD : Hid (Tbl ((T.setIfInBounds (k * 2) (.int .i64 N)).setIfInBounds (k * 2 + 1) (.int .u32 tg))) := (hT.out.set _ _ _).set _ _ _
  go_enter Try.func10, Try.ntmps10
  go_wp2_with fail
  refine (C _).mono ?_
  rintro e w' ⟨rfl, rfl⟩
  go_wp2_with fail
  refine (D _).mono ?_
  rintro e w' ⟨rfl, rfl⟩
  go_wp2_with (first | (refine wpList_load_row rfl 30 _ rfl _ rfl 30 _ (0, 0) _ (heap_alloc2_old _ _ _) Try.underlying30 rfl HD.out.info ?_) | (refine wpList_store_row rfl 30 _ _ rfl _ _ rfl rfl 30 _ (heap_alloc2_new _ _ _) HD.out.info HD.out.size.symm HD.out.ones ?_))
  exact bodyPost_ret (v := .agg _) (results_cell_row Try.results10 _ _ _ 30 _ (0, 0) _ rfl (setRow_heap _ _ _ _ _ _ (heap_alloc2_new _ _ _)) Try.underlying30 rfl HD.out.info) rfl ⟨rfl, below_row (((Below.refl _ _).alloc (Nat.le_refl _) _).alloc (by simp) _) (by simp) _⟩

set_option maxRecDepth 20000 in
set_option maxHeartbeats 1000000 in
theorem gLearnBranch_no (T : Array Value) (hT : Hid (Tbl T)) (pc tg : Int) (p0 : 0 ≤ pc) (p1 : pc ≤ 4294967295) (L N : Int) (k : Nat) (hk : k < 16) (he : Hid ((k : Int) = pc / 4 % 16)) (hN : Hid (N = bnd (bnd L - 1)))
   (hL : T[k * 2]? = some (.int .i64 L)) (w : World) :
    Calls Try.prog 10 #[.agg T, .int .u32 pc, .bool false, .int .u32 tg] w fun e w' => e = .returned (.agg (T.setIfInBounds (k * 2) (.int .i64 N))) ∧ Below w.heap.size w w' := by
  have C := gcounterOf_any pc p0 p1
  have D := gless_any L
  rw [← he.out] at C
  rw [← hN.out] at D
  have k0 : (0 : Int) ≤ (k : Int) := by omega
  have k1 : (k : Int) < 16 := by omega
  have HD : Hid (Tbl (T.setIfInBounds (k * 2) (.int .i64 N))) := hT.out.set _ _ _
  go_enter Try.func10, Try.ntmps10
  go_wp2_with fail
  refine (C _).mono ?_
  rintro e w' ⟨rfl, rfl⟩
  go_wp2_with fail
  refine (D _).mono ?_
  rintro e w' ⟨rfl, rfl⟩
  go_wp2_with (first | (refine wpList_load_row rfl 30 _ rfl _ rfl 30 _ (0, 0) _ (heap_alloc2_old _ _ _) Try.underlying30 rfl HD.out.info ?_) | (refine wpList_store_row rfl 30 _ _ rfl _ _ rfl rfl 30 _ (heap_alloc2_new _ _ _) HD.out.info HD.out.size.symm HD.out.ones ?_))
  exact bodyPost_ret (v := .agg _) (results_cell_row Try.results10 _ _ _ 30 _ (0, 0) _ rfl (setRow_heap _ _ _ _ _ _ (heap_alloc2_new _ _ _)) Try.underlying30 rfl HD.out.info) rfl ⟨rfl, below_row (((Below.refl _ _).alloc (Nat.le_refl _) _).alloc (by simp) _) (by simp) _⟩

set_option maxRecDepth 20000 in
set_option maxHeartbeats 1000000 in
theorem xLearnBranch_no (T : Array Value) (hT : Hid (Tbl T)) (pc tg : Int) (p0 : 0 ≤ pc) (p1 : pc ≤ 4294967295) (L N : Int) (k : Nat) (hk : k < 16) (he : Hid ((k : Int) = pc / 4 % 16)) (hN : Hid (N = bnd (bnd L - 1)))
   (hL : T[k * 2]? = some (.int .i64 L)) (w : World) :
    Calls Try.prog 12 #[.agg T, .int .u32 pc, .bool false, .int .u32 tg] w fun e w' => e = .returned (.agg (T.setIfInBounds (k * 2) (.int .i64 N))) ∧ Below w.heap.size w w' := by
  have C := xplace_any pc 16 p0 p1 (.inr rfl)
  rw [← he.out] at C
  obtain ⟨b0, b1⟩ := bnd_range L
  obtain ⟨b, hb⟩ : ∃ b, b = bnd L := ⟨_, rfl⟩
  have D := xbound_any L
  have E := xbound_any (b - 1)
  have hN' := hN.out
  rw [← hb] at b0 b1 D hN'
  rw [← hN'] at E
  clear hb hN'
  have k0 : (0 : Int) ≤ (k : Int) := by omega
  have k1 : (k : Int) < 16 := by omega
  have HD : Hid (Tbl (T.setIfInBounds (k * 2) (.int .i64 N))) := hT.out.set _ _ _
  go_enter Try.func12, Try.ntmps12
  go_wp2_with fail
  refine (C _).mono ?_
  rintro e w' ⟨rfl, rfl⟩
  go_wp2_with fail
  refine (D _).mono ?_
  rintro e w' ⟨rfl, rfl⟩
  go_wp2_with fail
  refine (E _).mono ?_
  rintro e w' ⟨rfl, rfl⟩
  go_wp2_with (first | (refine wpList_load_row rfl 30 _ rfl _ rfl 30 _ (0, 0) _ (heap_alloc2_old _ _ _) Try.underlying30 rfl HD.out.info ?_) | (refine wpList_store_row rfl 30 _ _ rfl _ _ rfl rfl 30 _ (heap_alloc2_new _ _ _) HD.out.info HD.out.size.symm HD.out.ones ?_))
  exact bodyPost_ret (v := .agg _) (results_cell_row Try.results12 _ _ _ 30 _ (0, 0) _ rfl (setRow_heap _ _ _ _ _ _ (heap_alloc2_new _ _ _)) Try.underlying30 rfl HD.out.info) rfl ⟨rfl, below_row (((Below.refl _ _).alloc (Nat.le_refl _) _).alloc (by simp) _) (by simp) _⟩

set_option maxRecDepth 20000 in
set_option maxHeartbeats 1000000 in
theorem xLearnBranch_yes (T : Array Value) (hT : Hid (Tbl T)) (pc tg : Int) (p0 : 0 ≤ pc) (p1 : pc ≤ 4294967295) (L G N : Int) (k : Nat) (hk : k < 16) (he : Hid ((k : Int) = pc / 4 % 16)) (hN : Hid (N = bnd (bnd L + 1)))
   (hL : T[k * 2]? = some (.int .i64 L)) (hG : T[k * 2 + 1]? = some (.int .u32 G)) (w : World) :
    Calls Try.prog 12 #[.agg T, .int .u32 pc, .bool true, .int .u32 tg] w fun e w' => e = .returned (.agg ((T.setIfInBounds (k * 2) (.int .i64 N)).setIfInBounds (k * 2 + 1) (.int .u32 tg))) ∧ Below w.heap.size w w' := by
  have C := xplace_any pc 16 p0 p1 (.inr rfl)
  rw [← he.out] at C
  obtain ⟨b0, b1⟩ := bnd_range L
  obtain ⟨b, hb⟩ : ∃ b, b = bnd L := ⟨_, rfl⟩
  have D := xbound_any L
  have E := xbound_any (b + 1)
  have hN' := hN.out
  rw [← hb] at b0 b1 D hN'
  rw [← hN'] at E
  clear hb hN'
  have k0 : (0 : Int) ≤ (k : Int) := by omega
  have k1 : (k : Int) < 16 := by omega
  have hC : Hid ((T.setIfInBounds (k * 2) (.int .i64 N)).setIfInBounds (k * 2 + 1) (.int .u32 tg) = (T.setIfInBounds (k * 2 + 1) (.int .u32 tg)).setIfInBounds (k * 2) (.int .i64 N)) := Array.setIfInBounds_comm _ _ (by omega)
  rw [hC.out]
  have HD : Hid (Tbl ((T.setIfInBounds (k * 2 + 1) (.int .u32 tg)).setIfInBounds (k * 2) (.int .i64 N))) := (hT.out.set _ _ _).set _ _ _
  go_enter Try.func12, Try.ntmps12
  go_wp2_with fail
  refine (C _).mono ?_
  rintro e w' ⟨rfl, rfl⟩
  go_wp2_with fail
  refine (D _).mono ?_
  rintro e w' ⟨rfl, rfl⟩
  go_wp2_with fail
  refine (E _).mono ?_
  rintro e w' ⟨rfl, rfl⟩
  go_wp2_with (first | (refine wpList_load_row rfl 30 _ rfl _ rfl 30 _ (0, 0) _ (heap_alloc2_old _ _ _) Try.underlying30 rfl HD.out.info ?_) | (refine wpList_store_row rfl 30 _ _ rfl _ _ rfl rfl 30 _ (heap_alloc2_new _ _ _) HD.out.info HD.out.size.symm HD.out.ones ?_))
  exact bodyPost_ret (v := .agg _) (results_cell_row Try.results12 _ _ _ 30 _ (0, 0) _ rfl (setRow_heap _ _ _ _ _ _ (heap_alloc2_new _ _ _)) Try.underlying30 rfl HD.out.info) rfl ⟨rfl, below_row (((Below.refl _ _).alloc (Nat.le_refl _) _).alloc (by simp) _) (by simp) _⟩
end Go.Proofs.Ytoajbcigenjmmab
