/- The program's commit, of a load: walked. -/
import Derived.Test.YtchjglfhljiofaaDoorHartE
import Derived.Test.YtchjglfhljiofaaDoorDecE
namespace Go.Proofs.YtchjglfhljiofaaDoor
open Go.RowKit
open Hy
set_option linter.unusedVariables false
set_option linter.unusedSimpArgs false

set_option maxRecDepth 20000 in
set_option maxHeartbeats 4000000 in
theorem hcLoad11 (H : Array Value) (pc : Int) (p : Option Addr) (n c : Nat) (w : World) (X I A B : Int) (rd s1 s2 : Nat) (C : Array Value)
    (h32 : H[32]? = some (.int .u32 pc)) (hA : H[s1]? = some (.int .u32 A)) (hB : H[s2]? = some (.int .u32 B)) (l1 : s1 < 32) (l2 : s2 < 32) (lr : rd < 32)
    (hC : Hid (C.size = 11 ∧ Ones C))
    (CL : ∀ W, Below w.heap.size w W → Calls Tryd.prog 52 #[.slice p n c, .int .i64 13, .int .u32 pc] W fun e w' => e = .returned (.tuple #[.int .u32 X, .bool true]) ∧ w' = W)
    (CD : ∀ W, Below w.heap.size w W → Calls Tryd.prog 11 #[.int .u32 X] W fun e w' => e = .returned (.tuple #[iv 11 rd s1 s2 I, .bool true]) ∧ Below W.heap.size W w')
    (CF : ∀ W, Below w.heap.size w W → Calls Tryd.prog 54 #[iv 11 rd s1 s2 I, .int .u32 pc, .int .u32 A, .slice p n c] W fun e w' => e = .returned (.agg C) ∧ Below W.heap.size W w') :
    Calls Tryd.prog 33 #[.agg H, .slice p n c] w fun e w' => e = .returned (.agg C) ∧ Below w.heap.size w w' := by
  have g1 : (0 : Int) ≤ (s1 : Int) := by omega
  have g2 : (s1 : Int) < 32 := by omega
  have g3 : (0 : Int) ≤ (s2 : Int) := by omega
  have g4 : (s2 : Int) < 32 := by omega
  go_enter Tryd.func33, Tryd.ntmps33
  go_wp2_with fail
  refine (CL _ (((Below.refl _ _).alloc (Nat.le_refl _) _).alloc (by simp) _)).mono ?_
  rintro e w' ⟨rfl, rfl⟩
  go_wp2_with fail
  refine (CD _ (((Below.refl _ _).alloc (Nat.le_refl _) _).alloc (by simp) _)).mono ?_
  rintro e w2 ⟨rfl, hk⟩
  have hs2 := hk.size
  simp at hs2
  have hrow : w2.heap[w.heap.size]? = some (.cells H 34 (0, 0)) := (hk.block _ (by simp; omega)).trans (heap_alloc2_old _ _ _)
  have hres : w2.heap[w.heap.size + 1]? = some (.cells (ccs 0 0 0 0 0 0 0 0 0 false 0) 38 (0, 0)) := (hk.block _ (by simp)).trans (heap_alloc2_new _ _ _)
  have hb0 : Below w.heap.size w w2 := (((Below.refl _ _).alloc (Nat.le_refl _) _).alloc (by simp) _).trans (hk.mono (by simp; omega))
  have k32 := (cell_of_row w2 w.heap.size 32 _ _ _ hrow).trans h32
  have kA := (cell_of_row w2 w.heap.size s1 _ _ _ hrow).trans hA
  have kB := (cell_of_row w2 w.heap.size s2 _ _ _ hrow).trans hB
  have HR : Hid (w2.heap[w.heap.size]? = some (.cells H 34 (0, 0))) := hrow
  have HZ : Hid (w2.heap[w.heap.size + 1]? = some (.cells (ccs 0 0 0 0 0 0 0 0 0 false 0) 38 (0, 0))) := hres
  have hs3 : w.heap.size < w2.heap.size := by omega
  have hs4 : w.heap.size + 1 < w2.heap.size := by omega
  clear hk hrow hres hA hB h32 CL CD hs2
  go_wp2_with fail
  go_region
  go_wp2_with fail
  refine (CF _ ((hb0.alloc (by omega) _).drew)).mono ?_
  rintro e w3 ⟨rfl, hk3⟩
  have HZ3 : Hid (w3.heap[w.heap.size + 1]? = some (.cells (ccs 0 0 0 0 0 0 0 0 0 false 0) 38 (0, 0))) := (hk3.block _ (by simp; omega)).trans ((Below.heap_alloc _ _ _ hs4).trans HZ.out)
  have hb3 : Below w.heap.size w w3 := ((hb0.alloc (by omega) _).drew).trans (hk3.mono (by simp; omega))
  clear hk3
  go_wp2_with (refine wpList_store_row rfl 38 _ _ rfl _ _ rfl rfl 38 (ccs 0 0 0 0 0 0 0 0 0 false 0) HZ3.out (size_commit.trans (congrArg some hC.out.1.symm)) hC.out.1.symm hC.out.2 ?_)
  exact bodyPost_ret (v := .agg C) (results_cell_row Tryd.results33 _ _ _ 38 _ (0, 0) _ rfl (setRow_heap _ _ _ _ _ _ HZ3.out) Tryd.underlying38 rfl (size_commit.trans (congrArg some hC.out.1.symm))) rfl ⟨rfl, below_row hb3 (by omega) _⟩

set_option maxRecDepth 20000 in
set_option maxHeartbeats 4000000 in
theorem hcLoad12 (H : Array Value) (pc : Int) (p : Option Addr) (n c : Nat) (w : World) (X I A B : Int) (rd s1 s2 : Nat) (C : Array Value)
    (h32 : H[32]? = some (.int .u32 pc)) (hA : H[s1]? = some (.int .u32 A)) (hB : H[s2]? = some (.int .u32 B)) (l1 : s1 < 32) (l2 : s2 < 32) (lr : rd < 32)
    (hC : Hid (C.size = 11 ∧ Ones C))
    (CL : ∀ W, Below w.heap.size w W → Calls Tryd.prog 52 #[.slice p n c, .int .i64 13, .int .u32 pc] W fun e w' => e = .returned (.tuple #[.int .u32 X, .bool true]) ∧ w' = W)
    (CD : ∀ W, Below w.heap.size w W → Calls Tryd.prog 11 #[.int .u32 X] W fun e w' => e = .returned (.tuple #[iv 12 rd s1 s2 I, .bool true]) ∧ Below W.heap.size W w')
    (CF : ∀ W, Below w.heap.size w W → Calls Tryd.prog 54 #[iv 12 rd s1 s2 I, .int .u32 pc, .int .u32 A, .slice p n c] W fun e w' => e = .returned (.agg C) ∧ Below W.heap.size W w') :
    Calls Tryd.prog 33 #[.agg H, .slice p n c] w fun e w' => e = .returned (.agg C) ∧ Below w.heap.size w w' := by
  have g1 : (0 : Int) ≤ (s1 : Int) := by omega
  have g2 : (s1 : Int) < 32 := by omega
  have g3 : (0 : Int) ≤ (s2 : Int) := by omega
  have g4 : (s2 : Int) < 32 := by omega
  go_enter Tryd.func33, Tryd.ntmps33
  go_wp2_with fail
  refine (CL _ (((Below.refl _ _).alloc (Nat.le_refl _) _).alloc (by simp) _)).mono ?_
  rintro e w' ⟨rfl, rfl⟩
  go_wp2_with fail
  refine (CD _ (((Below.refl _ _).alloc (Nat.le_refl _) _).alloc (by simp) _)).mono ?_
  rintro e w2 ⟨rfl, hk⟩
  have hs2 := hk.size
  simp at hs2
  have hrow : w2.heap[w.heap.size]? = some (.cells H 34 (0, 0)) := (hk.block _ (by simp; omega)).trans (heap_alloc2_old _ _ _)
  have hres : w2.heap[w.heap.size + 1]? = some (.cells (ccs 0 0 0 0 0 0 0 0 0 false 0) 38 (0, 0)) := (hk.block _ (by simp)).trans (heap_alloc2_new _ _ _)
  have hb0 : Below w.heap.size w w2 := (((Below.refl _ _).alloc (Nat.le_refl _) _).alloc (by simp) _).trans (hk.mono (by simp; omega))
  have k32 := (cell_of_row w2 w.heap.size 32 _ _ _ hrow).trans h32
  have kA := (cell_of_row w2 w.heap.size s1 _ _ _ hrow).trans hA
  have kB := (cell_of_row w2 w.heap.size s2 _ _ _ hrow).trans hB
  have HR : Hid (w2.heap[w.heap.size]? = some (.cells H 34 (0, 0))) := hrow
  have HZ : Hid (w2.heap[w.heap.size + 1]? = some (.cells (ccs 0 0 0 0 0 0 0 0 0 false 0) 38 (0, 0))) := hres
  have hs3 : w.heap.size < w2.heap.size := by omega
  have hs4 : w.heap.size + 1 < w2.heap.size := by omega
  clear hk hrow hres hA hB h32 CL CD hs2
  go_wp2_with fail
  go_region
  go_wp2_with fail
  refine (CF _ ((hb0.alloc (by omega) _).drew)).mono ?_
  rintro e w3 ⟨rfl, hk3⟩
  have HZ3 : Hid (w3.heap[w.heap.size + 1]? = some (.cells (ccs 0 0 0 0 0 0 0 0 0 false 0) 38 (0, 0))) := (hk3.block _ (by simp; omega)).trans ((Below.heap_alloc _ _ _ hs4).trans HZ.out)
  have hb3 : Below w.heap.size w w3 := ((hb0.alloc (by omega) _).drew).trans (hk3.mono (by simp; omega))
  clear hk3
  go_wp2_with (refine wpList_store_row rfl 38 _ _ rfl _ _ rfl rfl 38 (ccs 0 0 0 0 0 0 0 0 0 false 0) HZ3.out (size_commit.trans (congrArg some hC.out.1.symm)) hC.out.1.symm hC.out.2 ?_)
  exact bodyPost_ret (v := .agg C) (results_cell_row Tryd.results33 _ _ _ 38 _ (0, 0) _ rfl (setRow_heap _ _ _ _ _ _ HZ3.out) Tryd.underlying38 rfl (size_commit.trans (congrArg some hC.out.1.symm))) rfl ⟨rfl, below_row hb3 (by omega) _⟩

set_option maxRecDepth 20000 in
set_option maxHeartbeats 4000000 in
theorem hcLoad13 (H : Array Value) (pc : Int) (p : Option Addr) (n c : Nat) (w : World) (X I A B : Int) (rd s1 s2 : Nat) (C : Array Value)
    (h32 : H[32]? = some (.int .u32 pc)) (hA : H[s1]? = some (.int .u32 A)) (hB : H[s2]? = some (.int .u32 B)) (l1 : s1 < 32) (l2 : s2 < 32) (lr : rd < 32)
    (hC : Hid (C.size = 11 ∧ Ones C))
    (CL : ∀ W, Below w.heap.size w W → Calls Tryd.prog 52 #[.slice p n c, .int .i64 13, .int .u32 pc] W fun e w' => e = .returned (.tuple #[.int .u32 X, .bool true]) ∧ w' = W)
    (CD : ∀ W, Below w.heap.size w W → Calls Tryd.prog 11 #[.int .u32 X] W fun e w' => e = .returned (.tuple #[iv 13 rd s1 s2 I, .bool true]) ∧ Below W.heap.size W w')
    (CF : ∀ W, Below w.heap.size w W → Calls Tryd.prog 54 #[iv 13 rd s1 s2 I, .int .u32 pc, .int .u32 A, .slice p n c] W fun e w' => e = .returned (.agg C) ∧ Below W.heap.size W w') :
    Calls Tryd.prog 33 #[.agg H, .slice p n c] w fun e w' => e = .returned (.agg C) ∧ Below w.heap.size w w' := by
  have g1 : (0 : Int) ≤ (s1 : Int) := by omega
  have g2 : (s1 : Int) < 32 := by omega
  have g3 : (0 : Int) ≤ (s2 : Int) := by omega
  have g4 : (s2 : Int) < 32 := by omega
  go_enter Tryd.func33, Tryd.ntmps33
  go_wp2_with fail
  refine (CL _ (((Below.refl _ _).alloc (Nat.le_refl _) _).alloc (by simp) _)).mono ?_
  rintro e w' ⟨rfl, rfl⟩
  go_wp2_with fail
  refine (CD _ (((Below.refl _ _).alloc (Nat.le_refl _) _).alloc (by simp) _)).mono ?_
  rintro e w2 ⟨rfl, hk⟩
  have hs2 := hk.size
  simp at hs2
  have hrow : w2.heap[w.heap.size]? = some (.cells H 34 (0, 0)) := (hk.block _ (by simp; omega)).trans (heap_alloc2_old _ _ _)
  have hres : w2.heap[w.heap.size + 1]? = some (.cells (ccs 0 0 0 0 0 0 0 0 0 false 0) 38 (0, 0)) := (hk.block _ (by simp)).trans (heap_alloc2_new _ _ _)
  have hb0 : Below w.heap.size w w2 := (((Below.refl _ _).alloc (Nat.le_refl _) _).alloc (by simp) _).trans (hk.mono (by simp; omega))
  have k32 := (cell_of_row w2 w.heap.size 32 _ _ _ hrow).trans h32
  have kA := (cell_of_row w2 w.heap.size s1 _ _ _ hrow).trans hA
  have kB := (cell_of_row w2 w.heap.size s2 _ _ _ hrow).trans hB
  have HR : Hid (w2.heap[w.heap.size]? = some (.cells H 34 (0, 0))) := hrow
  have HZ : Hid (w2.heap[w.heap.size + 1]? = some (.cells (ccs 0 0 0 0 0 0 0 0 0 false 0) 38 (0, 0))) := hres
  have hs3 : w.heap.size < w2.heap.size := by omega
  have hs4 : w.heap.size + 1 < w2.heap.size := by omega
  clear hk hrow hres hA hB h32 CL CD hs2
  go_wp2_with fail
  go_region
  go_wp2_with fail
  refine (CF _ ((hb0.alloc (by omega) _).drew)).mono ?_
  rintro e w3 ⟨rfl, hk3⟩
  have HZ3 : Hid (w3.heap[w.heap.size + 1]? = some (.cells (ccs 0 0 0 0 0 0 0 0 0 false 0) 38 (0, 0))) := (hk3.block _ (by simp; omega)).trans ((Below.heap_alloc _ _ _ hs4).trans HZ.out)
  have hb3 : Below w.heap.size w w3 := ((hb0.alloc (by omega) _).drew).trans (hk3.mono (by simp; omega))
  clear hk3
  go_wp2_with (refine wpList_store_row rfl 38 _ _ rfl _ _ rfl rfl 38 (ccs 0 0 0 0 0 0 0 0 0 false 0) HZ3.out (size_commit.trans (congrArg some hC.out.1.symm)) hC.out.1.symm hC.out.2 ?_)
  exact bodyPost_ret (v := .agg C) (results_cell_row Tryd.results33 _ _ _ 38 _ (0, 0) _ rfl (setRow_heap _ _ _ _ _ _ HZ3.out) Tryd.underlying38 rfl (size_commit.trans (congrArg some hC.out.1.symm))) rfl ⟨rfl, below_row hb3 (by omega) _⟩

set_option maxRecDepth 20000 in
set_option maxHeartbeats 4000000 in
theorem hcLoad14 (H : Array Value) (pc : Int) (p : Option Addr) (n c : Nat) (w : World) (X I A B : Int) (rd s1 s2 : Nat) (C : Array Value)
    (h32 : H[32]? = some (.int .u32 pc)) (hA : H[s1]? = some (.int .u32 A)) (hB : H[s2]? = some (.int .u32 B)) (l1 : s1 < 32) (l2 : s2 < 32) (lr : rd < 32)
    (hC : Hid (C.size = 11 ∧ Ones C))
    (CL : ∀ W, Below w.heap.size w W → Calls Tryd.prog 52 #[.slice p n c, .int .i64 13, .int .u32 pc] W fun e w' => e = .returned (.tuple #[.int .u32 X, .bool true]) ∧ w' = W)
    (CD : ∀ W, Below w.heap.size w W → Calls Tryd.prog 11 #[.int .u32 X] W fun e w' => e = .returned (.tuple #[iv 14 rd s1 s2 I, .bool true]) ∧ Below W.heap.size W w')
    (CF : ∀ W, Below w.heap.size w W → Calls Tryd.prog 54 #[iv 14 rd s1 s2 I, .int .u32 pc, .int .u32 A, .slice p n c] W fun e w' => e = .returned (.agg C) ∧ Below W.heap.size W w') :
    Calls Tryd.prog 33 #[.agg H, .slice p n c] w fun e w' => e = .returned (.agg C) ∧ Below w.heap.size w w' := by
  have g1 : (0 : Int) ≤ (s1 : Int) := by omega
  have g2 : (s1 : Int) < 32 := by omega
  have g3 : (0 : Int) ≤ (s2 : Int) := by omega
  have g4 : (s2 : Int) < 32 := by omega
  go_enter Tryd.func33, Tryd.ntmps33
  go_wp2_with fail
  refine (CL _ (((Below.refl _ _).alloc (Nat.le_refl _) _).alloc (by simp) _)).mono ?_
  rintro e w' ⟨rfl, rfl⟩
  go_wp2_with fail
  refine (CD _ (((Below.refl _ _).alloc (Nat.le_refl _) _).alloc (by simp) _)).mono ?_
  rintro e w2 ⟨rfl, hk⟩
  have hs2 := hk.size
  simp at hs2
  have hrow : w2.heap[w.heap.size]? = some (.cells H 34 (0, 0)) := (hk.block _ (by simp; omega)).trans (heap_alloc2_old _ _ _)
  have hres : w2.heap[w.heap.size + 1]? = some (.cells (ccs 0 0 0 0 0 0 0 0 0 false 0) 38 (0, 0)) := (hk.block _ (by simp)).trans (heap_alloc2_new _ _ _)
  have hb0 : Below w.heap.size w w2 := (((Below.refl _ _).alloc (Nat.le_refl _) _).alloc (by simp) _).trans (hk.mono (by simp; omega))
  have k32 := (cell_of_row w2 w.heap.size 32 _ _ _ hrow).trans h32
  have kA := (cell_of_row w2 w.heap.size s1 _ _ _ hrow).trans hA
  have kB := (cell_of_row w2 w.heap.size s2 _ _ _ hrow).trans hB
  have HR : Hid (w2.heap[w.heap.size]? = some (.cells H 34 (0, 0))) := hrow
  have HZ : Hid (w2.heap[w.heap.size + 1]? = some (.cells (ccs 0 0 0 0 0 0 0 0 0 false 0) 38 (0, 0))) := hres
  have hs3 : w.heap.size < w2.heap.size := by omega
  have hs4 : w.heap.size + 1 < w2.heap.size := by omega
  clear hk hrow hres hA hB h32 CL CD hs2
  go_wp2_with fail
  go_region
  go_wp2_with fail
  refine (CF _ ((hb0.alloc (by omega) _).drew)).mono ?_
  rintro e w3 ⟨rfl, hk3⟩
  have HZ3 : Hid (w3.heap[w.heap.size + 1]? = some (.cells (ccs 0 0 0 0 0 0 0 0 0 false 0) 38 (0, 0))) := (hk3.block _ (by simp; omega)).trans ((Below.heap_alloc _ _ _ hs4).trans HZ.out)
  have hb3 : Below w.heap.size w w3 := ((hb0.alloc (by omega) _).drew).trans (hk3.mono (by simp; omega))
  clear hk3
  go_wp2_with (refine wpList_store_row rfl 38 _ _ rfl _ _ rfl rfl 38 (ccs 0 0 0 0 0 0 0 0 0 false 0) HZ3.out (size_commit.trans (congrArg some hC.out.1.symm)) hC.out.1.symm hC.out.2 ?_)
  exact bodyPost_ret (v := .agg C) (results_cell_row Tryd.results33 _ _ _ 38 _ (0, 0) _ rfl (setRow_heap _ _ _ _ _ _ HZ3.out) Tryd.underlying38 rfl (size_commit.trans (congrArg some hC.out.1.symm))) rfl ⟨rfl, below_row hb3 (by omega) _⟩

set_option maxRecDepth 20000 in
set_option maxHeartbeats 4000000 in
theorem hcLoad15 (H : Array Value) (pc : Int) (p : Option Addr) (n c : Nat) (w : World) (X I A B : Int) (rd s1 s2 : Nat) (C : Array Value)
    (h32 : H[32]? = some (.int .u32 pc)) (hA : H[s1]? = some (.int .u32 A)) (hB : H[s2]? = some (.int .u32 B)) (l1 : s1 < 32) (l2 : s2 < 32) (lr : rd < 32)
    (hC : Hid (C.size = 11 ∧ Ones C))
    (CL : ∀ W, Below w.heap.size w W → Calls Tryd.prog 52 #[.slice p n c, .int .i64 13, .int .u32 pc] W fun e w' => e = .returned (.tuple #[.int .u32 X, .bool true]) ∧ w' = W)
    (CD : ∀ W, Below w.heap.size w W → Calls Tryd.prog 11 #[.int .u32 X] W fun e w' => e = .returned (.tuple #[iv 15 rd s1 s2 I, .bool true]) ∧ Below W.heap.size W w')
    (CF : ∀ W, Below w.heap.size w W → Calls Tryd.prog 54 #[iv 15 rd s1 s2 I, .int .u32 pc, .int .u32 A, .slice p n c] W fun e w' => e = .returned (.agg C) ∧ Below W.heap.size W w') :
    Calls Tryd.prog 33 #[.agg H, .slice p n c] w fun e w' => e = .returned (.agg C) ∧ Below w.heap.size w w' := by
  have g1 : (0 : Int) ≤ (s1 : Int) := by omega
  have g2 : (s1 : Int) < 32 := by omega
  have g3 : (0 : Int) ≤ (s2 : Int) := by omega
  have g4 : (s2 : Int) < 32 := by omega
  go_enter Tryd.func33, Tryd.ntmps33
  go_wp2_with fail
  refine (CL _ (((Below.refl _ _).alloc (Nat.le_refl _) _).alloc (by simp) _)).mono ?_
  rintro e w' ⟨rfl, rfl⟩
  go_wp2_with fail
  refine (CD _ (((Below.refl _ _).alloc (Nat.le_refl _) _).alloc (by simp) _)).mono ?_
  rintro e w2 ⟨rfl, hk⟩
  have hs2 := hk.size
  simp at hs2
  have hrow : w2.heap[w.heap.size]? = some (.cells H 34 (0, 0)) := (hk.block _ (by simp; omega)).trans (heap_alloc2_old _ _ _)
  have hres : w2.heap[w.heap.size + 1]? = some (.cells (ccs 0 0 0 0 0 0 0 0 0 false 0) 38 (0, 0)) := (hk.block _ (by simp)).trans (heap_alloc2_new _ _ _)
  have hb0 : Below w.heap.size w w2 := (((Below.refl _ _).alloc (Nat.le_refl _) _).alloc (by simp) _).trans (hk.mono (by simp; omega))
  have k32 := (cell_of_row w2 w.heap.size 32 _ _ _ hrow).trans h32
  have kA := (cell_of_row w2 w.heap.size s1 _ _ _ hrow).trans hA
  have kB := (cell_of_row w2 w.heap.size s2 _ _ _ hrow).trans hB
  have HR : Hid (w2.heap[w.heap.size]? = some (.cells H 34 (0, 0))) := hrow
  have HZ : Hid (w2.heap[w.heap.size + 1]? = some (.cells (ccs 0 0 0 0 0 0 0 0 0 false 0) 38 (0, 0))) := hres
  have hs3 : w.heap.size < w2.heap.size := by omega
  have hs4 : w.heap.size + 1 < w2.heap.size := by omega
  clear hk hrow hres hA hB h32 CL CD hs2
  go_wp2_with fail
  go_region
  go_wp2_with fail
  refine (CF _ ((hb0.alloc (by omega) _).drew)).mono ?_
  rintro e w3 ⟨rfl, hk3⟩
  have HZ3 : Hid (w3.heap[w.heap.size + 1]? = some (.cells (ccs 0 0 0 0 0 0 0 0 0 false 0) 38 (0, 0))) := (hk3.block _ (by simp; omega)).trans ((Below.heap_alloc _ _ _ hs4).trans HZ.out)
  have hb3 : Below w.heap.size w w3 := ((hb0.alloc (by omega) _).drew).trans (hk3.mono (by simp; omega))
  clear hk3
  go_wp2_with (refine wpList_store_row rfl 38 _ _ rfl _ _ rfl rfl 38 (ccs 0 0 0 0 0 0 0 0 0 false 0) HZ3.out (size_commit.trans (congrArg some hC.out.1.symm)) hC.out.1.symm hC.out.2 ?_)
  exact bodyPost_ret (v := .agg C) (results_cell_row Tryd.results33 _ _ _ 38 _ (0, 0) _ rfl (setRow_heap _ _ _ _ _ _ HZ3.out) Tryd.underlying38 rfl (size_commit.trans (congrArg some hC.out.1.symm))) rfl ⟨rfl, below_row hb3 (by omega) _⟩

end Go.Proofs.YtchjglfhljiofaaDoor
namespace Go.Proofs.YtchjglfhljiofaaDoor
open Go.RowKit
open Hy
set_option linter.unusedVariables false
set_option linter.unusedSimpArgs false

set_option maxRecDepth 20000 in
set_option maxHeartbeats 4000000 in
theorem hcStore16 (H : Array Value) (pc : Int) (p : Option Addr) (n c : Nat) (w : World) (X I A B : Int) (rd s1 s2 : Nat) (C : Array Value)
    (h32 : H[32]? = some (.int .u32 pc)) (hA : H[s1]? = some (.int .u32 A)) (hB : H[s2]? = some (.int .u32 B)) (l1 : s1 < 32) (l2 : s2 < 32) (lr : rd < 32)
    (hC : Hid (C.size = 11 ∧ Ones C))
    (CL : ∀ W, Below w.heap.size w W → Calls Tryd.prog 52 #[.slice p n c, .int .i64 13, .int .u32 pc] W fun e w' => e = .returned (.tuple #[.int .u32 X, .bool true]) ∧ w' = W)
    (CD : ∀ W, Below w.heap.size w W → Calls Tryd.prog 11 #[.int .u32 X] W fun e w' => e = .returned (.tuple #[iv 16 rd s1 s2 I, .bool true]) ∧ Below W.heap.size W w')
    (CF : ∀ W, Below w.heap.size w W → Calls Tryd.prog 55 #[iv 16 rd s1 s2 I, .int .u32 pc, .int .u32 A, .int .u32 B, .slice p n c] W fun e w' => e = .returned (.agg C) ∧ Below W.heap.size W w') :
    Calls Tryd.prog 33 #[.agg H, .slice p n c] w fun e w' => e = .returned (.agg C) ∧ Below w.heap.size w w' := by
  have g1 : (0 : Int) ≤ (s1 : Int) := by omega
  have g2 : (s1 : Int) < 32 := by omega
  have g3 : (0 : Int) ≤ (s2 : Int) := by omega
  have g4 : (s2 : Int) < 32 := by omega
  go_enter Tryd.func33, Tryd.ntmps33
  go_wp2_with fail
  refine (CL _ (((Below.refl _ _).alloc (Nat.le_refl _) _).alloc (by simp) _)).mono ?_
  rintro e w' ⟨rfl, rfl⟩
  go_wp2_with fail
  refine (CD _ (((Below.refl _ _).alloc (Nat.le_refl _) _).alloc (by simp) _)).mono ?_
  rintro e w2 ⟨rfl, hk⟩
  have hs2 := hk.size
  simp at hs2
  have hrow : w2.heap[w.heap.size]? = some (.cells H 34 (0, 0)) := (hk.block _ (by simp; omega)).trans (heap_alloc2_old _ _ _)
  have hres : w2.heap[w.heap.size + 1]? = some (.cells (ccs 0 0 0 0 0 0 0 0 0 false 0) 38 (0, 0)) := (hk.block _ (by simp)).trans (heap_alloc2_new _ _ _)
  have hb0 : Below w.heap.size w w2 := (((Below.refl _ _).alloc (Nat.le_refl _) _).alloc (by simp) _).trans (hk.mono (by simp; omega))
  have k32 := (cell_of_row w2 w.heap.size 32 _ _ _ hrow).trans h32
  have kA := (cell_of_row w2 w.heap.size s1 _ _ _ hrow).trans hA
  have kB := (cell_of_row w2 w.heap.size s2 _ _ _ hrow).trans hB
  have HR : Hid (w2.heap[w.heap.size]? = some (.cells H 34 (0, 0))) := hrow
  have HZ : Hid (w2.heap[w.heap.size + 1]? = some (.cells (ccs 0 0 0 0 0 0 0 0 0 false 0) 38 (0, 0))) := hres
  have hs3 : w.heap.size < w2.heap.size := by omega
  have hs4 : w.heap.size + 1 < w2.heap.size := by omega
  clear hk hrow hres hA hB h32 CL CD hs2
  go_wp2_with fail
  go_region
  go_wp2_with fail
  refine (CF _ ((hb0.alloc (by omega) _).drew)).mono ?_
  rintro e w3 ⟨rfl, hk3⟩
  have HZ3 : Hid (w3.heap[w.heap.size + 1]? = some (.cells (ccs 0 0 0 0 0 0 0 0 0 false 0) 38 (0, 0))) := (hk3.block _ (by simp; omega)).trans ((Below.heap_alloc _ _ _ hs4).trans HZ.out)
  have hb3 : Below w.heap.size w w3 := ((hb0.alloc (by omega) _).drew).trans (hk3.mono (by simp; omega))
  clear hk3
  go_wp2_with (refine wpList_store_row rfl 38 _ _ rfl _ _ rfl rfl 38 (ccs 0 0 0 0 0 0 0 0 0 false 0) HZ3.out (size_commit.trans (congrArg some hC.out.1.symm)) hC.out.1.symm hC.out.2 ?_)
  exact bodyPost_ret (v := .agg C) (results_cell_row Tryd.results33 _ _ _ 38 _ (0, 0) _ rfl (setRow_heap _ _ _ _ _ _ HZ3.out) Tryd.underlying38 rfl (size_commit.trans (congrArg some hC.out.1.symm))) rfl ⟨rfl, below_row hb3 (by omega) _⟩

set_option maxRecDepth 20000 in
set_option maxHeartbeats 4000000 in
theorem hcStore17 (H : Array Value) (pc : Int) (p : Option Addr) (n c : Nat) (w : World) (X I A B : Int) (rd s1 s2 : Nat) (C : Array Value)
    (h32 : H[32]? = some (.int .u32 pc)) (hA : H[s1]? = some (.int .u32 A)) (hB : H[s2]? = some (.int .u32 B)) (l1 : s1 < 32) (l2 : s2 < 32) (lr : rd < 32)
    (hC : Hid (C.size = 11 ∧ Ones C))
    (CL : ∀ W, Below w.heap.size w W → Calls Tryd.prog 52 #[.slice p n c, .int .i64 13, .int .u32 pc] W fun e w' => e = .returned (.tuple #[.int .u32 X, .bool true]) ∧ w' = W)
    (CD : ∀ W, Below w.heap.size w W → Calls Tryd.prog 11 #[.int .u32 X] W fun e w' => e = .returned (.tuple #[iv 17 rd s1 s2 I, .bool true]) ∧ Below W.heap.size W w')
    (CF : ∀ W, Below w.heap.size w W → Calls Tryd.prog 55 #[iv 17 rd s1 s2 I, .int .u32 pc, .int .u32 A, .int .u32 B, .slice p n c] W fun e w' => e = .returned (.agg C) ∧ Below W.heap.size W w') :
    Calls Tryd.prog 33 #[.agg H, .slice p n c] w fun e w' => e = .returned (.agg C) ∧ Below w.heap.size w w' := by
  have g1 : (0 : Int) ≤ (s1 : Int) := by omega
  have g2 : (s1 : Int) < 32 := by omega
  have g3 : (0 : Int) ≤ (s2 : Int) := by omega
  have g4 : (s2 : Int) < 32 := by omega
  go_enter Tryd.func33, Tryd.ntmps33
  go_wp2_with fail
  refine (CL _ (((Below.refl _ _).alloc (Nat.le_refl _) _).alloc (by simp) _)).mono ?_
  rintro e w' ⟨rfl, rfl⟩
  go_wp2_with fail
  refine (CD _ (((Below.refl _ _).alloc (Nat.le_refl _) _).alloc (by simp) _)).mono ?_
  rintro e w2 ⟨rfl, hk⟩
  have hs2 := hk.size
  simp at hs2
  have hrow : w2.heap[w.heap.size]? = some (.cells H 34 (0, 0)) := (hk.block _ (by simp; omega)).trans (heap_alloc2_old _ _ _)
  have hres : w2.heap[w.heap.size + 1]? = some (.cells (ccs 0 0 0 0 0 0 0 0 0 false 0) 38 (0, 0)) := (hk.block _ (by simp)).trans (heap_alloc2_new _ _ _)
  have hb0 : Below w.heap.size w w2 := (((Below.refl _ _).alloc (Nat.le_refl _) _).alloc (by simp) _).trans (hk.mono (by simp; omega))
  have k32 := (cell_of_row w2 w.heap.size 32 _ _ _ hrow).trans h32
  have kA := (cell_of_row w2 w.heap.size s1 _ _ _ hrow).trans hA
  have kB := (cell_of_row w2 w.heap.size s2 _ _ _ hrow).trans hB
  have HR : Hid (w2.heap[w.heap.size]? = some (.cells H 34 (0, 0))) := hrow
  have HZ : Hid (w2.heap[w.heap.size + 1]? = some (.cells (ccs 0 0 0 0 0 0 0 0 0 false 0) 38 (0, 0))) := hres
  have hs3 : w.heap.size < w2.heap.size := by omega
  have hs4 : w.heap.size + 1 < w2.heap.size := by omega
  clear hk hrow hres hA hB h32 CL CD hs2
  go_wp2_with fail
  go_region
  go_wp2_with fail
  refine (CF _ ((hb0.alloc (by omega) _).drew)).mono ?_
  rintro e w3 ⟨rfl, hk3⟩
  have HZ3 : Hid (w3.heap[w.heap.size + 1]? = some (.cells (ccs 0 0 0 0 0 0 0 0 0 false 0) 38 (0, 0))) := (hk3.block _ (by simp; omega)).trans ((Below.heap_alloc _ _ _ hs4).trans HZ.out)
  have hb3 : Below w.heap.size w w3 := ((hb0.alloc (by omega) _).drew).trans (hk3.mono (by simp; omega))
  clear hk3
  go_wp2_with (refine wpList_store_row rfl 38 _ _ rfl _ _ rfl rfl 38 (ccs 0 0 0 0 0 0 0 0 0 false 0) HZ3.out (size_commit.trans (congrArg some hC.out.1.symm)) hC.out.1.symm hC.out.2 ?_)
  exact bodyPost_ret (v := .agg C) (results_cell_row Tryd.results33 _ _ _ 38 _ (0, 0) _ rfl (setRow_heap _ _ _ _ _ _ HZ3.out) Tryd.underlying38 rfl (size_commit.trans (congrArg some hC.out.1.symm))) rfl ⟨rfl, below_row hb3 (by omega) _⟩

set_option maxRecDepth 20000 in
set_option maxHeartbeats 4000000 in
theorem hcStore18 (H : Array Value) (pc : Int) (p : Option Addr) (n c : Nat) (w : World) (X I A B : Int) (rd s1 s2 : Nat) (C : Array Value)
    (h32 : H[32]? = some (.int .u32 pc)) (hA : H[s1]? = some (.int .u32 A)) (hB : H[s2]? = some (.int .u32 B)) (l1 : s1 < 32) (l2 : s2 < 32) (lr : rd < 32)
    (hC : Hid (C.size = 11 ∧ Ones C))
    (CL : ∀ W, Below w.heap.size w W → Calls Tryd.prog 52 #[.slice p n c, .int .i64 13, .int .u32 pc] W fun e w' => e = .returned (.tuple #[.int .u32 X, .bool true]) ∧ w' = W)
    (CD : ∀ W, Below w.heap.size w W → Calls Tryd.prog 11 #[.int .u32 X] W fun e w' => e = .returned (.tuple #[iv 18 rd s1 s2 I, .bool true]) ∧ Below W.heap.size W w')
    (CF : ∀ W, Below w.heap.size w W → Calls Tryd.prog 55 #[iv 18 rd s1 s2 I, .int .u32 pc, .int .u32 A, .int .u32 B, .slice p n c] W fun e w' => e = .returned (.agg C) ∧ Below W.heap.size W w') :
    Calls Tryd.prog 33 #[.agg H, .slice p n c] w fun e w' => e = .returned (.agg C) ∧ Below w.heap.size w w' := by
  have g1 : (0 : Int) ≤ (s1 : Int) := by omega
  have g2 : (s1 : Int) < 32 := by omega
  have g3 : (0 : Int) ≤ (s2 : Int) := by omega
  have g4 : (s2 : Int) < 32 := by omega
  go_enter Tryd.func33, Tryd.ntmps33
  go_wp2_with fail
  refine (CL _ (((Below.refl _ _).alloc (Nat.le_refl _) _).alloc (by simp) _)).mono ?_
  rintro e w' ⟨rfl, rfl⟩
  go_wp2_with fail
  refine (CD _ (((Below.refl _ _).alloc (Nat.le_refl _) _).alloc (by simp) _)).mono ?_
  rintro e w2 ⟨rfl, hk⟩
  have hs2 := hk.size
  simp at hs2
  have hrow : w2.heap[w.heap.size]? = some (.cells H 34 (0, 0)) := (hk.block _ (by simp; omega)).trans (heap_alloc2_old _ _ _)
  have hres : w2.heap[w.heap.size + 1]? = some (.cells (ccs 0 0 0 0 0 0 0 0 0 false 0) 38 (0, 0)) := (hk.block _ (by simp)).trans (heap_alloc2_new _ _ _)
  have hb0 : Below w.heap.size w w2 := (((Below.refl _ _).alloc (Nat.le_refl _) _).alloc (by simp) _).trans (hk.mono (by simp; omega))
  have k32 := (cell_of_row w2 w.heap.size 32 _ _ _ hrow).trans h32
  have kA := (cell_of_row w2 w.heap.size s1 _ _ _ hrow).trans hA
  have kB := (cell_of_row w2 w.heap.size s2 _ _ _ hrow).trans hB
  have HR : Hid (w2.heap[w.heap.size]? = some (.cells H 34 (0, 0))) := hrow
  have HZ : Hid (w2.heap[w.heap.size + 1]? = some (.cells (ccs 0 0 0 0 0 0 0 0 0 false 0) 38 (0, 0))) := hres
  have hs3 : w.heap.size < w2.heap.size := by omega
  have hs4 : w.heap.size + 1 < w2.heap.size := by omega
  clear hk hrow hres hA hB h32 CL CD hs2
  go_wp2_with fail
  go_region
  go_wp2_with fail
  refine (CF _ ((hb0.alloc (by omega) _).drew)).mono ?_
  rintro e w3 ⟨rfl, hk3⟩
  have HZ3 : Hid (w3.heap[w.heap.size + 1]? = some (.cells (ccs 0 0 0 0 0 0 0 0 0 false 0) 38 (0, 0))) := (hk3.block _ (by simp; omega)).trans ((Below.heap_alloc _ _ _ hs4).trans HZ.out)
  have hb3 : Below w.heap.size w w3 := ((hb0.alloc (by omega) _).drew).trans (hk3.mono (by simp; omega))
  clear hk3
  go_wp2_with (refine wpList_store_row rfl 38 _ _ rfl _ _ rfl rfl 38 (ccs 0 0 0 0 0 0 0 0 0 false 0) HZ3.out (size_commit.trans (congrArg some hC.out.1.symm)) hC.out.1.symm hC.out.2 ?_)
  exact bodyPost_ret (v := .agg C) (results_cell_row Tryd.results33 _ _ _ 38 _ (0, 0) _ rfl (setRow_heap _ _ _ _ _ _ HZ3.out) Tryd.underlying38 rfl (size_commit.trans (congrArg some hC.out.1.symm))) rfl ⟨rfl, below_row hb3 (by omega) _⟩

set_option maxRecDepth 20000 in
set_option maxHeartbeats 4000000 in
theorem hcFence (H : Array Value) (pc : Int) (p : Option Addr) (n c : Nat) (w : World) (X I A B : Int) (rd s1 s2 : Nat) (C : Array Value)
    (h32 : H[32]? = some (.int .u32 pc)) (hA : H[s1]? = some (.int .u32 A)) (hB : H[s2]? = some (.int .u32 B)) (l1 : s1 < 32) (l2 : s2 < 32) (lr : rd < 32)
    (hC : Hid (C.size = 11 ∧ Ones C))
    (CL : ∀ W, Below w.heap.size w W → Calls Tryd.prog 52 #[.slice p n c, .int .i64 13, .int .u32 pc] W fun e w' => e = .returned (.tuple #[.int .u32 X, .bool true]) ∧ w' = W)
    (CD : ∀ W, Below w.heap.size w W → Calls Tryd.prog 11 #[.int .u32 X] W fun e w' => e = .returned (.tuple #[iv 46 rd s1 s2 I, .bool true]) ∧ Below W.heap.size W w')
    (CF : ∀ W, Below w.heap.size w W → Calls Tryd.prog 56 #[.int .u32 pc] W fun e w' => e = .returned (.agg C) ∧ Below W.heap.size W w') :
    Calls Tryd.prog 33 #[.agg H, .slice p n c] w fun e w' => e = .returned (.agg C) ∧ Below w.heap.size w w' := by
  have g1 : (0 : Int) ≤ (s1 : Int) := by omega
  have g2 : (s1 : Int) < 32 := by omega
  have g3 : (0 : Int) ≤ (s2 : Int) := by omega
  have g4 : (s2 : Int) < 32 := by omega
  go_enter Tryd.func33, Tryd.ntmps33
  go_wp2_with fail
  refine (CL _ (((Below.refl _ _).alloc (Nat.le_refl _) _).alloc (by simp) _)).mono ?_
  rintro e w' ⟨rfl, rfl⟩
  go_wp2_with fail
  refine (CD _ (((Below.refl _ _).alloc (Nat.le_refl _) _).alloc (by simp) _)).mono ?_
  rintro e w2 ⟨rfl, hk⟩
  have hs2 := hk.size
  simp at hs2
  have hrow : w2.heap[w.heap.size]? = some (.cells H 34 (0, 0)) := (hk.block _ (by simp; omega)).trans (heap_alloc2_old _ _ _)
  have hres : w2.heap[w.heap.size + 1]? = some (.cells (ccs 0 0 0 0 0 0 0 0 0 false 0) 38 (0, 0)) := (hk.block _ (by simp)).trans (heap_alloc2_new _ _ _)
  have hb0 : Below w.heap.size w w2 := (((Below.refl _ _).alloc (Nat.le_refl _) _).alloc (by simp) _).trans (hk.mono (by simp; omega))
  have k32 := (cell_of_row w2 w.heap.size 32 _ _ _ hrow).trans h32
  have kA := (cell_of_row w2 w.heap.size s1 _ _ _ hrow).trans hA
  have kB := (cell_of_row w2 w.heap.size s2 _ _ _ hrow).trans hB
  have HR : Hid (w2.heap[w.heap.size]? = some (.cells H 34 (0, 0))) := hrow
  have HZ : Hid (w2.heap[w.heap.size + 1]? = some (.cells (ccs 0 0 0 0 0 0 0 0 0 false 0) 38 (0, 0))) := hres
  have hs3 : w.heap.size < w2.heap.size := by omega
  have hs4 : w.heap.size + 1 < w2.heap.size := by omega
  clear hk hrow hres hA hB h32 CL CD hs2
  go_wp2_with fail
  go_region
  go_wp2_with fail
  refine (CF _ ((hb0.alloc (by omega) _).drew)).mono ?_
  rintro e w3 ⟨rfl, hk3⟩
  have HZ3 : Hid (w3.heap[w.heap.size + 1]? = some (.cells (ccs 0 0 0 0 0 0 0 0 0 false 0) 38 (0, 0))) := (hk3.block _ (by simp; omega)).trans ((Below.heap_alloc _ _ _ hs4).trans HZ.out)
  have hb3 : Below w.heap.size w w3 := ((hb0.alloc (by omega) _).drew).trans (hk3.mono (by simp; omega))
  clear hk3
  go_wp2_with (refine wpList_store_row rfl 38 _ _ rfl _ _ rfl rfl 38 (ccs 0 0 0 0 0 0 0 0 0 false 0) HZ3.out (size_commit.trans (congrArg some hC.out.1.symm)) hC.out.1.symm hC.out.2 ?_)
  exact bodyPost_ret (v := .agg C) (results_cell_row Tryd.results33 _ _ _ 38 _ (0, 0) _ rfl (setRow_heap _ _ _ _ _ _ HZ3.out) Tryd.underlying38 rfl (size_commit.trans (congrArg some hC.out.1.symm))) rfl ⟨rfl, below_row hb3 (by omega) _⟩

set_option maxRecDepth 20000 in
set_option maxHeartbeats 4000000 in
theorem hcBreak (H : Array Value) (pc : Int) (p : Option Addr) (n c : Nat) (w : World) (X I A B : Int) (rd s1 s2 : Nat) (C : Array Value)
    (h32 : H[32]? = some (.int .u32 pc)) (hA : H[s1]? = some (.int .u32 A)) (hB : H[s2]? = some (.int .u32 B)) (l1 : s1 < 32) (l2 : s2 < 32) (lr : rd < 32)
    (hC : Hid (C.size = 11 ∧ Ones C))
    (CL : ∀ W, Below w.heap.size w W → Calls Tryd.prog 52 #[.slice p n c, .int .i64 13, .int .u32 pc] W fun e w' => e = .returned (.tuple #[.int .u32 X, .bool true]) ∧ w' = W)
    (CD : ∀ W, Below w.heap.size w W → Calls Tryd.prog 11 #[.int .u32 X] W fun e w' => e = .returned (.tuple #[iv 48 rd s1 s2 I, .bool true]) ∧ Below W.heap.size W w')
    (CF : ∀ W, Below w.heap.size w W → Calls Tryd.prog 53 #[.int .u32 pc, .int .i64 6] W fun e w' => e = .returned (.agg C) ∧ Below W.heap.size W w') :
    Calls Tryd.prog 33 #[.agg H, .slice p n c] w fun e w' => e = .returned (.agg C) ∧ Below w.heap.size w w' := by
  have g1 : (0 : Int) ≤ (s1 : Int) := by omega
  have g2 : (s1 : Int) < 32 := by omega
  have g3 : (0 : Int) ≤ (s2 : Int) := by omega
  have g4 : (s2 : Int) < 32 := by omega
  go_enter Tryd.func33, Tryd.ntmps33
  go_wp2_with fail
  refine (CL _ (((Below.refl _ _).alloc (Nat.le_refl _) _).alloc (by simp) _)).mono ?_
  rintro e w' ⟨rfl, rfl⟩
  go_wp2_with fail
  refine (CD _ (((Below.refl _ _).alloc (Nat.le_refl _) _).alloc (by simp) _)).mono ?_
  rintro e w2 ⟨rfl, hk⟩
  have hs2 := hk.size
  simp at hs2
  have hrow : w2.heap[w.heap.size]? = some (.cells H 34 (0, 0)) := (hk.block _ (by simp; omega)).trans (heap_alloc2_old _ _ _)
  have hres : w2.heap[w.heap.size + 1]? = some (.cells (ccs 0 0 0 0 0 0 0 0 0 false 0) 38 (0, 0)) := (hk.block _ (by simp)).trans (heap_alloc2_new _ _ _)
  have hb0 : Below w.heap.size w w2 := (((Below.refl _ _).alloc (Nat.le_refl _) _).alloc (by simp) _).trans (hk.mono (by simp; omega))
  have k32 := (cell_of_row w2 w.heap.size 32 _ _ _ hrow).trans h32
  have kA := (cell_of_row w2 w.heap.size s1 _ _ _ hrow).trans hA
  have kB := (cell_of_row w2 w.heap.size s2 _ _ _ hrow).trans hB
  have HR : Hid (w2.heap[w.heap.size]? = some (.cells H 34 (0, 0))) := hrow
  have HZ : Hid (w2.heap[w.heap.size + 1]? = some (.cells (ccs 0 0 0 0 0 0 0 0 0 false 0) 38 (0, 0))) := hres
  have hs3 : w.heap.size < w2.heap.size := by omega
  have hs4 : w.heap.size + 1 < w2.heap.size := by omega
  clear hk hrow hres hA hB h32 CL CD hs2
  go_wp2_with fail
  go_region
  go_wp2_with fail
  refine (CF _ ((hb0.alloc (by omega) _).drew)).mono ?_
  rintro e w3 ⟨rfl, hk3⟩
  have HZ3 : Hid (w3.heap[w.heap.size + 1]? = some (.cells (ccs 0 0 0 0 0 0 0 0 0 false 0) 38 (0, 0))) := (hk3.block _ (by simp; omega)).trans ((Below.heap_alloc _ _ _ hs4).trans HZ.out)
  have hb3 : Below w.heap.size w w3 := ((hb0.alloc (by omega) _).drew).trans (hk3.mono (by simp; omega))
  clear hk3
  go_wp2_with (refine wpList_store_row rfl 38 _ _ rfl _ _ rfl rfl 38 (ccs 0 0 0 0 0 0 0 0 0 false 0) HZ3.out (size_commit.trans (congrArg some hC.out.1.symm)) hC.out.1.symm hC.out.2 ?_)
  exact bodyPost_ret (v := .agg C) (results_cell_row Tryd.results33 _ _ _ 38 _ (0, 0) _ rfl (setRow_heap _ _ _ _ _ _ HZ3.out) Tryd.underlying38 rfl (size_commit.trans (congrArg some hC.out.1.symm))) rfl ⟨rfl, below_row hb3 (by omega) _⟩

set_option maxRecDepth 20000 in
set_option maxHeartbeats 4000000 in
theorem hcCall (H : Array Value) (pc : Int) (p : Option Addr) (n c : Nat) (w : World) (X I A B : Int) (rd s1 s2 : Nat) (C : Array Value) (hI : (Tryd.prog.info? 34).map (·.size) = some H.size)
    (h32 : H[32]? = some (.int .u32 pc)) (hA : H[s1]? = some (.int .u32 A)) (hB : H[s2]? = some (.int .u32 B)) (l1 : s1 < 32) (l2 : s2 < 32) (lr : rd < 32)
    (hC : Hid (C.size = 11 ∧ Ones C))
    (CL : ∀ W, Below w.heap.size w W → Calls Tryd.prog 52 #[.slice p n c, .int .i64 13, .int .u32 pc] W fun e w' => e = .returned (.tuple #[.int .u32 X, .bool true]) ∧ w' = W)
    (CD : ∀ W, Below w.heap.size w W → Calls Tryd.prog 11 #[.int .u32 X] W fun e w' => e = .returned (.tuple #[iv 47 rd s1 s2 I, .bool true]) ∧ Below W.heap.size W w')
    (CF : ∀ W, Below w.heap.size w W → Calls Tryd.prog 57 #[.agg H] W fun e w' => e = .returned (.agg C) ∧ Below W.heap.size W w') :
    Calls Tryd.prog 33 #[.agg H, .slice p n c] w fun e w' => e = .returned (.agg C) ∧ Below w.heap.size w w' := by
  have HI : Hid ((Tryd.prog.info? 34).map (·.size) = some H.size) := hI
  clear hI
  have g1 : (0 : Int) ≤ (s1 : Int) := by omega
  have g2 : (s1 : Int) < 32 := by omega
  have g3 : (0 : Int) ≤ (s2 : Int) := by omega
  have g4 : (s2 : Int) < 32 := by omega
  go_enter Tryd.func33, Tryd.ntmps33
  go_wp2_with fail
  refine (CL _ (((Below.refl _ _).alloc (Nat.le_refl _) _).alloc (by simp) _)).mono ?_
  rintro e w' ⟨rfl, rfl⟩
  go_wp2_with fail
  refine (CD _ (((Below.refl _ _).alloc (Nat.le_refl _) _).alloc (by simp) _)).mono ?_
  rintro e w2 ⟨rfl, hk⟩
  have hs2 := hk.size
  simp at hs2
  have hrow : w2.heap[w.heap.size]? = some (.cells H 34 (0, 0)) := (hk.block _ (by simp; omega)).trans (heap_alloc2_old _ _ _)
  have hres : w2.heap[w.heap.size + 1]? = some (.cells (ccs 0 0 0 0 0 0 0 0 0 false 0) 38 (0, 0)) := (hk.block _ (by simp)).trans (heap_alloc2_new _ _ _)
  have hb0 : Below w.heap.size w w2 := (((Below.refl _ _).alloc (Nat.le_refl _) _).alloc (by simp) _).trans (hk.mono (by simp; omega))
  have k32 := (cell_of_row w2 w.heap.size 32 _ _ _ hrow).trans h32
  have kA := (cell_of_row w2 w.heap.size s1 _ _ _ hrow).trans hA
  have kB := (cell_of_row w2 w.heap.size s2 _ _ _ hrow).trans hB
  have HR : Hid (w2.heap[w.heap.size]? = some (.cells H 34 (0, 0))) := hrow
  have HZ : Hid (w2.heap[w.heap.size + 1]? = some (.cells (ccs 0 0 0 0 0 0 0 0 0 false 0) 38 (0, 0))) := hres
  have hs3 : w.heap.size < w2.heap.size := by omega
  have hs4 : w.heap.size + 1 < w2.heap.size := by omega
  clear hk hrow hres hA hB h32 CL CD hs2
  go_wp2_with fail
  go_region
  go_wp2_with (refine wpList_load_row rfl 34 _ rfl _ rfl 34 _ (0, 0) _ ((Below.heap_alloc _ _ _ hs3).trans HR.out) Tryd.underlying34 rfl HI.out ?_)
  refine (CF _ ((hb0.alloc (by omega) _).drew)).mono ?_
  rintro e w3 ⟨rfl, hk3⟩
  have HZ3 : Hid (w3.heap[w.heap.size + 1]? = some (.cells (ccs 0 0 0 0 0 0 0 0 0 false 0) 38 (0, 0))) := (hk3.block _ (by simp; omega)).trans ((Below.heap_alloc _ _ _ hs4).trans HZ.out)
  have hb3 : Below w.heap.size w w3 := ((hb0.alloc (by omega) _).drew).trans (hk3.mono (by simp; omega))
  clear hk3
  go_wp2_with (refine wpList_store_row rfl 38 _ _ rfl _ _ rfl rfl 38 (ccs 0 0 0 0 0 0 0 0 0 false 0) HZ3.out (size_commit.trans (congrArg some hC.out.1.symm)) hC.out.1.symm hC.out.2 ?_)
  exact bodyPost_ret (v := .agg C) (results_cell_row Tryd.results33 _ _ _ 38 _ (0, 0) _ rfl (setRow_heap _ _ _ _ _ _ HZ3.out) Tryd.underlying38 rfl (size_commit.trans (congrArg some hC.out.1.symm))) rfl ⟨rfl, below_row hb3 (by omega) _⟩

end Go.Proofs.YtchjglfhljiofaaDoor
namespace Go.Proofs.YtchjglfhljiofaaDoor
open Go.RowKit
open Hy
set_option linter.unusedVariables false
set_option linter.unusedSimpArgs false

theorem at_cell {w2s bs : Nat} {W w : World} {b j : Nat} {v : Value} (h : ∀ b, b < w2s → b ≠ bs → w.heap[b]? = W.heap[b]?) (hb : b < w2s) (hn : b ≠ bs) (hv : W.cell? ⟨b, j, none⟩ = some v) : w.cell? ⟨b, j, none⟩ = some v :=
  (World.cell?_of_block (w := W) (a := ⟨b, j, none⟩) (h b hb hn)).trans hv

set_option maxRecDepth 20000 in
set_option maxHeartbeats 4000000 in
theorem hcRest (H : Array Value) (pc : Int) (p : Option Addr) (n c : Nat) (w : World) (X I A B : Int) (rd s1 s2 : Nat) (C : Array Value) (M NX V : Int) (hM : M < 11 ∨ 18 < M) (hM2 : M < 46)
    (h32 : H[32]? = some (.int .u32 pc)) (hA : H[s1]? = some (.int .u32 A)) (hB : H[s2]? = some (.int .u32 B)) (l1 : s1 < 32) (l2 : s2 < 32) (lr : rd < 32)
    (hC : Hid (C.size = 11 ∧ Ones C))
    (CL : ∀ W, Below w.heap.size w W → Calls Tryd.prog 52 #[.slice p n c, .int .i64 13, .int .u32 pc] W fun e w' => e = .returned (.tuple #[.int .u32 X, .bool true]) ∧ w' = W)
    (CD : ∀ W, Below w.heap.size w W → Calls Tryd.prog 11 #[.int .u32 X] W fun e w' => e = .returned (.tuple #[iv M rd s1 s2 I, .bool true]) ∧ Below W.heap.size W w')
    (CX : ∀ W, Below w.heap.size w W → Calls Tryd.prog 59 #[iv M rd s1 s2 I, .int .u32 pc, .int .u32 A, .int .u32 B] W fun e w' => e = .returned (.int .u32 NX) ∧ Below W.heap.size W w')
    (CR : ∀ W, Below w.heap.size w W → Calls Tryd.prog 60 #[iv M rd s1 s2 I, .int .u32 pc, .int .u32 A, .int .u32 B] W fun e w' => e = .returned (.int .u32 V) ∧ Below W.heap.size W w')
    (CG : ∀ W, Calls Tryd.prog 58 #[cv pc NX 0 0 0 0 0 0 0 false 0, .int .i64 rd, .int .u32 V] W fun e w' => e = .returned (.agg C) ∧ Below W.heap.size W w') :
    Calls Tryd.prog 33 #[.agg H, .slice p n c] w fun e w' => e = .returned (.agg C) ∧ Below w.heap.size w w' := by
  have q11 : (M == 11) = false := beq_eq_false_iff_ne.2 (by omega)
  have q12 : (M == 12) = false := beq_eq_false_iff_ne.2 (by omega)
  have q13 : (M == 13) = false := beq_eq_false_iff_ne.2 (by omega)
  have q14 : (M == 14) = false := beq_eq_false_iff_ne.2 (by omega)
  have q15 : (M == 15) = false := beq_eq_false_iff_ne.2 (by omega)
  have q16 : (M == 16) = false := beq_eq_false_iff_ne.2 (by omega)
  have q17 : (M == 17) = false := beq_eq_false_iff_ne.2 (by omega)
  have q18 : (M == 18) = false := beq_eq_false_iff_ne.2 (by omega)
  have q46 : (M == 46) = false := beq_eq_false_iff_ne.2 (by omega)
  have q47 : (M == 47) = false := beq_eq_false_iff_ne.2 (by omega)
  have q48 : (M == 48) = false := beq_eq_false_iff_ne.2 (by omega)
  have P32 : Hid (H[32]? = some (.int .u32 pc)) := h32
  have g1 : (0 : Int) ≤ (s1 : Int) := by omega
  have g2 : (s1 : Int) < 32 := by omega
  have g3 : (0 : Int) ≤ (s2 : Int) := by omega
  have g4 : (s2 : Int) < 32 := by omega
  go_enter Tryd.func33, Tryd.ntmps33
  go_wp2_with fail
  refine (CL _ (((Below.refl _ _).alloc (Nat.le_refl _) _).alloc (by simp) _)).mono ?_
  rintro e w' ⟨rfl, rfl⟩
  go_wp2_with fail
  refine (CD _ (((Below.refl _ _).alloc (Nat.le_refl _) _).alloc (by simp) _)).mono ?_
  rintro e w2 ⟨rfl, hk⟩
  have hs2 := hk.size
  simp at hs2
  have hrow : w2.heap[w.heap.size]? = some (.cells H 34 (0, 0)) := (hk.block _ (by simp; omega)).trans (heap_alloc2_old _ _ _)
  have hres : w2.heap[w.heap.size + 1]? = some (.cells (ccs 0 0 0 0 0 0 0 0 0 false 0) 38 (0, 0)) := (hk.block _ (by simp)).trans (heap_alloc2_new _ _ _)
  have hb0 : Below w.heap.size w w2 := (((Below.refl _ _).alloc (Nat.le_refl _) _).alloc (by simp) _).trans (hk.mono (by simp; omega))
  have k32 := (cell_of_row w2 w.heap.size 32 _ _ _ hrow).trans h32
  have kA := (cell_of_row w2 w.heap.size s1 _ _ _ hrow).trans hA
  have kB := (cell_of_row w2 w.heap.size s2 _ _ _ hrow).trans hB
  have HR : Hid (w2.heap[w.heap.size]? = some (.cells H 34 (0, 0))) := hrow
  have HZ : Hid (w2.heap[w.heap.size + 1]? = some (.cells (ccs 0 0 0 0 0 0 0 0 0 false 0) 38 (0, 0))) := hres
  have hs3 : w.heap.size < w2.heap.size := by omega
  have hs4 : w.heap.size + 1 < w2.heap.size := by omega
  clear hk hrow hres hA hB h32 CL CD hs2
  go_wp2_with fail
  go_region
  go_wp2_with fail
  obtain ⟨W, hW⟩ : ∃ W : World, W = (w2.alloc (.cells #[.int .i64 M, .int .i64 rd, .int .i64 s1, .int .i64 s2, .int .i32 I] 24)).drew := ⟨_, rfl⟩
  rw [← hW]
  have r24 : W.heap[w2.heap.size]? = some (.cells #[.int .i64 M, .int .i64 rd, .int .i64 s1, .int .i64 s2, .int .i32 I] 24 (0, 0)) := by rw [hW]; exact heap_alloc_new _ _
  have R38 : Hid (W.heap[w.heap.size + 1]? = some (.cells (ccs 0 0 0 0 0 0 0 0 0 false 0) 38 (0, 0))) := by rw [hW]; exact (Below.heap_alloc _ _ _ hs4).trans HZ.out
  have r34 : W.heap[w.heap.size]? = some (.cells H 34 (0, 0)) := by rw [hW]; exact (Below.heap_alloc _ _ _ hs3).trans HR.out
  have hsz : w2.heap.size + 1 ≤ W.heap.size := by rw [hW]; show _ ≤ (w2.alloc _).heap.size; simp
  have hb : Below w.heap.size w W := by rw [hW]; exact (hb0.alloc (by omega) _).drew
  have y32 : W.cell? ⟨w.heap.size, 32, none⟩ = some (.int .u32 pc) := (cell_of_row W w.heap.size 32 _ _ _ r34).trans P32.out
  have y0 := (cell_of_row W w2.heap.size 0 _ _ _ r24).trans rfl
  have y1 := (cell_of_row W w2.heap.size 1 _ _ _ r24).trans rfl
  have y2 := (cell_of_row W w2.heap.size 2 _ _ _ r24).trans rfl
  have y3 := (cell_of_row W w2.heap.size 3 _ _ _ r24).trans rfl
  have y4 := (cell_of_row W w2.heap.size 4 _ _ _ r24).trans rfl
  have a0 : w.heap.size < w2.heap.size + 1 := by omega
  have a1 : w2.heap.size < w2.heap.size + 1 := by omega
  have a2 : w.heap.size + 1 < w2.heap.size + 1 := by omega
  clear hW r24 r34 HR HZ k32 kA kB
  refine wp_region_held_drew (S := fun w' => ∀ b, b < w2.heap.size + 1 → b ≠ w.heap.size + 1 → w'.heap[b]? = W.heap[b]?) (by kernel_rfl) (fun _ _ _ => rfl) (fun hH => ?_)
  refine wpAnyH_take (i := 0) (v := .pointer (some ⟨w.heap.size, 32, none⟩)) rfl (by kernel_rfl) (by kernel_rfl) (by kernel_rfl) (fun _ _ _ h => h) (Or.inl ⟨by rfl, by intro w hSw; go_simp⟩) hH ?_
  try simp only [Act.put, List.setIfInBounds_toArray, List.set_cons_zero, List.set_cons_succ]
  refine wpAnyH_take (i := 1) (v := .int .u32 pc) rfl (by kernel_rfl) (by kernel_rfl) (by kernel_rfl) (fun _ _ _ h => h) (Or.inl ⟨by rfl, by intro w hSw; have hc := at_cell hSw a0 (by omega) y32; go_simp⟩) hH ?_
  try simp only [Act.put, List.setIfInBounds_toArray, List.set_cons_zero, List.set_cons_succ]
  refine wpAnyH_take (i := 2) (v := .agg #[.int .i64 M, .int .i64 rd, .int .i64 s1, .int .i64 s2, .int .i32 I]) rfl (by kernel_rfl) (by kernel_rfl) (by kernel_rfl) (fun _ _ _ h => h) (Or.inl ⟨by rfl, by intro w hSw; have hc0 := at_cell hSw a1 (by omega) y0; have hc1 := at_cell hSw a1 (by omega) y1; have hc2 := at_cell hSw a1 (by omega) y2; have hc3 := at_cell hSw a1 (by omega) y3; have hc4 := at_cell hSw a1 (by omega) y4; go_simp⟩) hH ?_
  try simp only [Act.put, List.setIfInBounds_toArray, List.set_cons_zero, List.set_cons_succ]
  refine wpAnyH_take (i := 3) (v := .pointer (some ⟨w.heap.size, 32, none⟩)) rfl (by kernel_rfl) (by kernel_rfl) (by kernel_rfl) (fun _ _ _ h => h) (Or.inl ⟨by rfl, by intro w hSw; go_simp⟩) hH ?_
  try simp only [Act.put, List.setIfInBounds_toArray, List.set_cons_zero, List.set_cons_succ]
  refine wpAnyH_take (i := 4) (v := .int .u32 pc) rfl (by kernel_rfl) (by kernel_rfl) (by kernel_rfl) (fun _ _ _ h => h) (Or.inl ⟨by rfl, by intro w hSw; have hc := at_cell hSw a0 (by omega) y32; go_simp⟩) hH ?_
  try simp only [Act.put, List.setIfInBounds_toArray, List.set_cons_zero, List.set_cons_succ]
  refine wpAnyH_take (i := 5) (v := .int .u32 A) rfl (by kernel_rfl) (by kernel_rfl) (by kernel_rfl) (fun _ _ _ h => h) (Or.inl ⟨by rfl, by intro w hSw; go_simp⟩) hH ?_
  try simp only [Act.put, List.setIfInBounds_toArray, List.set_cons_zero, List.set_cons_succ]
  refine wpAnyH_take (i := 6) (v := .int .u32 B) rfl (by kernel_rfl) (by kernel_rfl) (by kernel_rfl) (fun _ _ _ h => h) (Or.inl ⟨by rfl, by intro w hSw; go_simp⟩) hH ?_
  try simp only [Act.put, List.setIfInBounds_toArray, List.set_cons_zero, List.set_cons_succ]
  refine wpAnyH_take (i := 9) (v := .pointer (some ⟨w2.heap.size, 1, none⟩)) rfl (by kernel_rfl) (by kernel_rfl) (by kernel_rfl) (fun _ _ _ h => h) (Or.inl ⟨by rfl, by intro w hSw; go_simp⟩) hH ?_
  try simp only [Act.put, List.setIfInBounds_toArray, List.set_cons_zero, List.set_cons_succ]
  refine wpAnyH_take (i := 10) (v := .int .i64 rd) rfl (by kernel_rfl) (by kernel_rfl) (by kernel_rfl) (fun _ _ _ h => h) (Or.inl ⟨by rfl, by intro w hSw; have hc := at_cell hSw a1 (by omega) y1; go_simp⟩) hH ?_
  try simp only [Act.put, List.setIfInBounds_toArray, List.set_cons_zero, List.set_cons_succ]
  refine wpAnyH_take (i := 11) (v := .agg #[.int .i64 M, .int .i64 rd, .int .i64 s1, .int .i64 s2, .int .i32 I]) rfl (by kernel_rfl) (by kernel_rfl) (by kernel_rfl) (fun _ _ _ h => h) (Or.inl ⟨by rfl, by intro w hSw; have hc0 := at_cell hSw a1 (by omega) y0; have hc1 := at_cell hSw a1 (by omega) y1; have hc2 := at_cell hSw a1 (by omega) y2; have hc3 := at_cell hSw a1 (by omega) y3; have hc4 := at_cell hSw a1 (by omega) y4; go_simp⟩) hH ?_
  try simp only [Act.put, List.setIfInBounds_toArray, List.set_cons_zero, List.set_cons_succ]
  refine wpAnyH_take (i := 12) (v := .pointer (some ⟨w.heap.size, 32, none⟩)) rfl (by kernel_rfl) (by kernel_rfl) (by kernel_rfl) (fun _ _ _ h => h) (Or.inl ⟨by rfl, by intro w hSw; go_simp⟩) hH ?_
  try simp only [Act.put, List.setIfInBounds_toArray, List.set_cons_zero, List.set_cons_succ]
  refine wpAnyH_take (i := 13) (v := .int .u32 pc) rfl (by kernel_rfl) (by kernel_rfl) (by kernel_rfl) (fun _ _ _ h => h) (Or.inl ⟨by rfl, by intro w hSw; have hc := at_cell hSw a0 (by omega) y32; go_simp⟩) hH ?_
  try simp only [Act.put, List.setIfInBounds_toArray, List.set_cons_zero, List.set_cons_succ]
  refine wpAnyH_take (i := 14) (v := .int .u32 A) rfl (by kernel_rfl) (by kernel_rfl) (by kernel_rfl) (fun _ _ _ h => h) (Or.inl ⟨by rfl, by intro w hSw; go_simp⟩) hH ?_
  try simp only [Act.put, List.setIfInBounds_toArray, List.set_cons_zero, List.set_cons_succ]
  refine wpAnyH_take (i := 15) (v := .int .u32 B) rfl (by kernel_rfl) (by kernel_rfl) (by kernel_rfl) (fun _ _ _ h => h) (Or.inl ⟨by rfl, by intro w hSw; go_simp⟩) hH ?_
  try simp only [Act.put, List.setIfInBounds_toArray, List.set_cons_zero, List.set_cons_succ]
  refine wpAnyH_ready (rs := [7]) (by kernel_rfl) (by simp) ?_
  refine AllReadyH.cons rfl (fun K hK => ?_) AllReadyH.nil
  go_simp
  refine (CX _ hb.drew).mono ?_
  rintro e w3 ⟨rfl, hk3⟩
  have hB3 : Below W.heap.size W w3 := below_first hk3 (Nat.le_refl _)
  go_wp2_with fail
  refine hK.out _ _ (fun b hb _ => hB3.block b (by omega)) (fun hH => ?_)
  clear hK K
  try simp only [Act.put, List.setIfInBounds_toArray, List.set_cons_zero, List.set_cons_succ]
  refine wpAnyH_take (i := 8) (v := cv pc NX 0 0 0 0 0 0 0 false 0) rfl (by kernel_rfl) (by kernel_rfl) (by kernel_rfl) (fun _ _ _ h => h) (Or.inl ⟨by rfl, by intro w hSw; go_simp⟩) hH ?_
  try simp only [Act.put, List.setIfInBounds_toArray, List.set_cons_zero, List.set_cons_succ]
  refine wpAnyH_ready (rs := [16]) (by kernel_rfl) (by simp) ?_
  refine AllReadyH.cons rfl (fun K hK => ?_) AllReadyH.nil
  go_simp
  refine (CR _ (hb.trans (hB3.mono (by omega)))).mono ?_
  rintro e w4 ⟨rfl, hk4⟩
  have hB4 : Below W.heap.size W w4 := below_next hB3 hk4 (Nat.le_refl _)
  go_wp2_with fail
  refine hK.out _ _ (fun b hb _ => hB4.block b (by omega)) (fun hH => ?_)
  clear hK K
  try simp only [Act.put, List.setIfInBounds_toArray, List.set_cons_zero, List.set_cons_succ]
  refine wpAnyH_ready (rs := [17]) (by kernel_rfl) (by simp) ?_
  refine AllReadyH.cons rfl (fun K hK => ?_) AllReadyH.nil
  go_simp
  refine (CG _).mono ?_
  rintro e w5 ⟨rfl, hk5⟩
  have hB5 : Below W.heap.size W w5 := below_next hB4 hk5 (Nat.le_refl _)
  go_wp2_with fail
  refine hK.out _ _ (fun b hb _ => hB5.block b (by omega)) (fun hH => ?_)
  clear hK K
  try simp only [Act.put, List.setIfInBounds_toArray, List.set_cons_zero, List.set_cons_succ]
  refine wpAnyH_ready (rs := [18]) (by kernel_rfl) (by simp) ?_
  refine AllReadyH.cons rfl (fun K hK => ?_) AllReadyH.nil
  rw [if_pos (by rfl)]
  refine wp_store_row 38 _ _ rfl _ _ rfl rfl 38 (ccs 0 0 0 0 0 0 0 0 0 false 0) (below_row_at hB5 (by omega) R38.out) (size_commit.trans (congrArg some hC.out.1.symm)) hC.out.1.symm hC.out.2 ?_
  refine hK.out _ _ (fun b hb hn => (setRow_other _ _ _ _ hn).trans (hB5.block b (by omega))) (fun hH => ?_)
  clear hK K
  refine wpAnyH_done (by kernel_rfl) ?_ _
  go_wp2_with fail
  exact bodyPost_ret (v := .agg C) (results_cell_row Tryd.results33 _ _ _ 38 _ (0, 0) _ rfl (setRow_heap _ _ _ _ _ _ (below_row_at hB5 (by omega) R38.out)) Tryd.underlying38 rfl (size_commit.trans (congrArg some hC.out.1.symm))) rfl ⟨rfl, below_row (hb.trans (hB5.mono (by omega))) (by omega) _⟩

end Go.Proofs.YtchjglfhljiofaaDoor
