/- What the document says is learnt of a word. -/
import Derived.Test.YtoajbcigenjmmabGueF
namespace Go.Proofs.Ytoajbcigenjmmab
open Go.RowKit
open Hy
set_option linter.unusedVariables false
theorem heap3a (w : World) (a b c : Obj) : (((w.alloc a).alloc b).alloc c).heap[w.heap.size]? = some a := by
  rw [heap_alloc_old _ _ (by simp; omega)]
  exact heap_alloc2_old _ _ _
theorem heap3b (w : World) (a b c : Obj) : (((w.alloc a).alloc b).alloc c).heap[w.heap.size + 1]? = some b := by
  rw [heap_alloc_old _ _ (by simp)]
  exact heap_alloc2_new _ _ _
set_option maxRecDepth 20000 in
set_option maxHeartbeats 1000000 in
theorem xLearnValue_other (T : Array Value) (hT : Hid (Tbl T)) (pc v : Int) (p0 : 0 ≤ pc) (p1 : pc ≤ 4294967295) (v0 : 0 ≤ v) (v1 : v ≤ 4294967295) (P A S U X Y : Int) (a0 : 0 ≤ A) (a1 : A ≤ 4294967295) (s0 : 0 ≤ S) (s1 : S ≤ 4294967295) (k : Nat) (hk : k < 8) (he : Hid ((k : Int) = pc / 4 % 8))
   (hX : Hid (X = lS P A S pc v)) (hY : Hid (Y = lU P A S U pc v))
   (hP : T[32 + k * 4]? = some (.int .u32 P)) (hA : T[32 + k * 4 + 1]? = some (.int .u32 A)) (hS : T[32 + k * 4 + 2]? = some (.int .u32 S)) (hU : T[32 + k * 4 + 3]? = some (.int .i64 U)) (hp : P ≠ pc) (w : World) :
    Calls Try.prog 13 #[.agg T, .int .u32 pc, .int .u32 v] w fun e w' => e = .returned (.agg ((((T.setIfInBounds (32 + k * 4) (.int .u32 pc)).setIfInBounds (32 + k * 4 + 1) (.int .u32 v)).setIfInBounds (32 + k * 4 + 2) (.int .u32 X)).setIfInBounds (32 + k * 4 + 3) (.int .i64 Y))) ∧ Below w.heap.size w w' := by
  have C := xplace_any pc 8 p0 p1 (.inl rfl)
  have X1 : X = 0 := by rw [hX.out]; simp [lS, hp]
  have Y1 : Y = 0 := by rw [hY.out]; simp [lU, hp]
  subst X1 Y1
  clear hX hY
  have hp' : (P != pc) = true := by simpa using hp
  rw [← he.out] at C
  have k0 : (0 : Int) ≤ (k : Int) := by omega
  have k1 : (k : Int) < 8 := by omega
  have HD : Hid (Tbl ((((T.setIfInBounds (32 + k * 4) (.int .u32 pc)).setIfInBounds (32 + k * 4 + 1) (.int .u32 v)).setIfInBounds (32 + k * 4 + 2) (.int .u32 0)).setIfInBounds (32 + k * 4 + 3) (.int .i64 0))) := (((hT.out.set _ _ _).set _ _ _).set _ _ _).set _ _ _
  go_enter Try.func13, Try.ntmps13
  go_wp2_with fail
  refine (C _).mono ?_
  rintro e w' ⟨rfl, rfl⟩
  go_upto_region 5 with fail
  go_wp2_with (first | (refine wpList_load_row rfl 30 _ rfl _ rfl 30 _ (0, 0) _ (heap3a _ _ _ _) Try.underlying30 rfl HD.out.info ?_) | (refine wpList_store_row rfl 30 _ _ rfl _ _ rfl rfl 30 _ (heap3b _ _ _ _) HD.out.info HD.out.size.symm HD.out.ones ?_))
  exact bodyPost_ret (v := .agg _) (results_cell_row Try.results13 _ _ _ 30 _ (0, 0) _ rfl (setRow_heap _ _ _ _ _ _ (heap3b _ _ _ _)) Try.underlying30 rfl HD.out.info) rfl ⟨rfl, below_row ((((Below.refl _ _).alloc (Nat.le_refl _) _).alloc (by simp) _).alloc (by simp; omega) _) (by simp) _⟩

set_option maxRecDepth 20000 in
set_option maxHeartbeats 1000000 in
theorem xLearnValue_next (T : Array Value) (hT : Hid (Tbl T)) (pc v : Int) (p0 : 0 ≤ pc) (p1 : pc ≤ 4294967295) (v0 : 0 ≤ v) (v1 : v ≤ 4294967295) (P A S U X Y : Int) (a0 : 0 ≤ A) (a1 : A ≤ 4294967295) (s0 : 0 ≤ S) (s1 : S ≤ 4294967295) (k : Nat) (hk : k < 8) (he : Hid ((k : Int) = pc / 4 % 8))
   (hX : Hid (X = lS P A S pc v)) (hY : Hid (Y = lU P A S U pc v))
   (hP : T[32 + k * 4]? = some (.int .u32 P)) (hA : T[32 + k * 4 + 1]? = some (.int .u32 A)) (hS : T[32 + k * 4 + 2]? = some (.int .u32 S)) (hU : T[32 + k * 4 + 3]? = some (.int .i64 U)) (hp : P = pc) (hv : v = (A + S) % 4294967296) (w : World) :
    Calls Try.prog 13 #[.agg T, .int .u32 pc, .int .u32 v] w fun e w' => e = .returned (.agg ((((T.setIfInBounds (32 + k * 4) (.int .u32 pc)).setIfInBounds (32 + k * 4 + 1) (.int .u32 v)).setIfInBounds (32 + k * 4 + 2) (.int .u32 X)).setIfInBounds (32 + k * 4 + 3) (.int .i64 Y))) ∧ Below w.heap.size w w' := by
  have C := xplace_any pc 8 p0 p1 (.inl rfl)
  obtain ⟨b0, b1⟩ := bnd_range U
  obtain ⟨b, hb⟩ : ∃ b, b = bnd U := ⟨_, rfl⟩
  have X1 : X = S := by rw [hX.out]; simp [lS, hp, ← hv]
  have Y1 : Y = bnd (b + 1) := by rw [hY.out, hb]; simp [lU, hp, ← hv]
  have D := xbound_any U
  have E := xbound_any (b + 1)
  have F := xsum_any A S a0 a1 s0 s1
  rw [← hb] at b0 b1 D
  rw [← Y1] at E
  rw [← hv] at F
  subst X1 hp
  clear hX hY Y1 hb hv
  rw [← he.out] at C
  have k0 : (0 : Int) ≤ (k : Int) := by omega
  have k1 : (k : Int) < 8 := by omega
  have HD : Hid (Tbl ((((T.setIfInBounds (32 + k * 4) (.int .u32 P)).setIfInBounds (32 + k * 4 + 1) (.int .u32 v)).setIfInBounds (32 + k * 4 + 2) (.int .u32 X)).setIfInBounds (32 + k * 4 + 3) (.int .i64 Y))) := (((hT.out.set _ _ _).set _ _ _).set _ _ _).set _ _ _
  go_enter Try.func13, Try.ntmps13
  go_wp2_with fail
  refine (C _).mono ?_
  rintro e w' ⟨rfl, rfl⟩
  go_wp2_with fail
  refine (F _).mono ?_
  rintro e w' ⟨rfl, rfl⟩
  go_wp2_with fail
  refine (D _).mono ?_
  rintro e w' ⟨rfl, rfl⟩
  go_wp2_with fail
  refine (E _).mono ?_
  rintro e w' ⟨rfl, rfl⟩
  go_upto_region 12 with fail
  go_wp2_with (first | (refine wpList_load_row rfl 30 _ rfl _ rfl 30 _ (0, 0) _ (heap3a _ _ _ _) Try.underlying30 rfl HD.out.info ?_) | (refine wpList_store_row rfl 30 _ _ rfl _ _ rfl rfl 30 _ (heap3b _ _ _ _) HD.out.info HD.out.size.symm HD.out.ones ?_))
  exact bodyPost_ret (v := .agg _) (results_cell_row Try.results13 _ _ _ 30 _ (0, 0) _ rfl (setRow_heap _ _ _ _ _ _ (heap3b _ _ _ _)) Try.underlying30 rfl HD.out.info) rfl ⟨rfl, below_row ((((Below.refl _ _).alloc (Nat.le_refl _) _).alloc (by simp) _).alloc (by simp; omega) _) (by simp) _⟩

set_option maxRecDepth 20000 in
set_option maxHeartbeats 1000000 in
theorem xLearnValue_new (T : Array Value) (hT : Hid (Tbl T)) (pc v : Int) (p0 : 0 ≤ pc) (p1 : pc ≤ 4294967295) (v0 : 0 ≤ v) (v1 : v ≤ 4294967295) (P A S U X Y : Int) (a0 : 0 ≤ A) (a1 : A ≤ 4294967295) (s0 : 0 ≤ S) (s1 : S ≤ 4294967295) (k : Nat) (hk : k < 8) (he : Hid ((k : Int) = pc / 4 % 8))
   (hX : Hid (X = lS P A S pc v)) (hY : Hid (Y = lU P A S U pc v))
   (hP : T[32 + k * 4]? = some (.int .u32 P)) (hA : T[32 + k * 4 + 1]? = some (.int .u32 A)) (hS : T[32 + k * 4 + 2]? = some (.int .u32 S)) (hU : T[32 + k * 4 + 3]? = some (.int .i64 U)) (hp : P = pc) (hv : v ≠ (A + S) % 4294967296) (w : World) :
    Calls Try.prog 13 #[.agg T, .int .u32 pc, .int .u32 v] w fun e w' => e = .returned (.agg ((((T.setIfInBounds (32 + k * 4) (.int .u32 pc)).setIfInBounds (32 + k * 4 + 1) (.int .u32 v)).setIfInBounds (32 + k * 4 + 2) (.int .u32 X)).setIfInBounds (32 + k * 4 + 3) (.int .i64 Y))) ∧ Below w.heap.size w w' := by
  have C := xplace_any pc 8 p0 p1 (.inl rfl)
  have X1 : X = (v - A) % 4294967296 := by rw [hX.out]; simp [lS, hp, hv]
  have Y1 : Y = 0 := by rw [hY.out]; simp [lU, hp, hv]
  obtain ⟨s, hs⟩ : ∃ s, s = (A + S) % 4294967296 := ⟨_, rfl⟩
  have F := xsum_any A S a0 a1 s0 s1
  rw [← hs] at F hv
  have hv' : (v == s) = false := by simpa using hv
  subst Y1 hp
  clear hX hY hs hv
  rw [← he.out] at C
  have k0 : (0 : Int) ≤ (k : Int) := by omega
  have k1 : (k : Int) < 8 := by omega
  have HD : Hid (Tbl ((((T.setIfInBounds (32 + k * 4) (.int .u32 P)).setIfInBounds (32 + k * 4 + 1) (.int .u32 v)).setIfInBounds (32 + k * 4 + 2) (.int .u32 X)).setIfInBounds (32 + k * 4 + 3) (.int .i64 0))) := (((hT.out.set _ _ _).set _ _ _).set _ _ _).set _ _ _
  have X2 : (v - A + 4294967296) % 4294967296 = X := by rw [X1]; omega
  have X3 : X % 4294967296 = X := by rw [X1]; omega
  clear X1
  go_enter Try.func13, Try.ntmps13
  go_wp2_with fail
  refine (C _).mono ?_
  rintro e w' ⟨rfl, rfl⟩
  go_wp2_with fail
  refine (F _).mono ?_
  rintro e w' ⟨rfl, rfl⟩
  go_upto_region 12 with fail
  go_wp2_with (first | (refine wpList_load_row rfl 30 _ rfl _ rfl 30 _ (0, 0) _ (heap3a _ _ _ _) Try.underlying30 rfl HD.out.info ?_) | (refine wpList_store_row rfl 30 _ _ rfl _ _ rfl rfl 30 _ (heap3b _ _ _ _) HD.out.info HD.out.size.symm HD.out.ones ?_))
  exact bodyPost_ret (v := .agg _) (results_cell_row Try.results13 _ _ _ 30 _ (0, 0) _ rfl (setRow_heap _ _ _ _ _ _ (heap3b _ _ _ _)) Try.underlying30 rfl HD.out.info) rfl ⟨rfl, below_row ((((Below.refl _ _).alloc (Nat.le_refl _) _).alloc (by simp) _).alloc (by simp; omega) _) (by simp) _⟩
end Go.Proofs.Ytoajbcigenjmmab
