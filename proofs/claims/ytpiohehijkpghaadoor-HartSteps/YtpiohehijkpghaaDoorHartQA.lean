/- The document's Step, of LUI, AUIPC and JAL: walked. -/
import Derived.Test.YtpiohehijkpghaaDoorHartB
import Derived.Test.YtpiohehijkpghaaDoorDecWr
import Derived.Deep.Cut
import Derived.WalkSmall
namespace Go.Proofs.YtpiohehijkpghaaDoor
open Go.RowKit
open Hy
set_option linter.unusedVariables false

set_option maxRecDepth 20000 in
set_option maxHeartbeats 4000000 in
theorem qLui_0 (H : Array Value) (pc : Int) (p : Option Addr) (n c : Nat) (w : World) (X I N NX TH A B R0 : Int) (rd s1 s2 : Nat) (D : Array Value)
    (hH : H.size = 35) (hO : Ones H) (h32 : H[32]? = some (.int .u32 pc)) (h33 : H[33]? = some (.int .i64 0)) (h34 : H[34]? = some (.int .i64 0))
    (hA : H[s1]? = some (.int .u32 A)) (hB : H[s2]? = some (.int .u32 B)) (hR : H[rd]? = some (.int .u32 R0)) (l1 : s1 < 32) (l2 : s2 < 32) (lr : rd < 32) (i0 : -2147483648 ≤ I) (i1 : I ≤ 2147483647) (hz : ((rd : Int) != 0) = false)
    (CL : ∀ W, Below w.heap.size w W → Calls Tryd.prog 36 #[.slice p n c, .int .i64 13, .int .u32 pc] W fun e w' => e = .returned (.tuple #[.int .u32 X, .bool true]) ∧ w' = W)
    (CD : ∀ W, Calls Tryd.prog 12 #[.int .u32 X] W fun e w' => e = .returned (.tuple #[iv 1 rd s1 s2 I, .bool true]) ∧ Below W.heap.size W w')
    (CO : ∀ W, Calls Tryd.prog 38 #[.int .i64 I] W fun e w' => e = .returned (.int .u32 N) ∧ w' = W)
    (CN : ∀ W, Calls Tryd.prog 39 #[.int .u32 pc, .int .u32 4] W fun e w' => e = .returned (.int .u32 NX) ∧ w' = W)
    (CT : ∀ W, Calls Tryd.prog 39 #[.int .u32 A, .int .u32 N] W fun e w' => e = .returned (.int .u32 TH) ∧ w' = W)
    (hD : Hid (Did D (ccs pc NX 0 0 0 0 0 0 0 false 0) (H.setIfInBounds 32 (.int .u32 NX)) p n c)) :
    Calls Tryd.prog 18 #[.agg H, .slice p n c] w fun e w' => e = .returned (.agg D) ∧ Below w.heap.size w w' := by
  have HH : Hid (H.size = 35) := hH
  have HO : Hid (Ones H) := hO
  clear hH hO
  go_enter Tryd.func18, Tryd.ntmps18
  go_wp2_with fail
  refine (CL _ (((Below.refl _ _).alloc (Nat.le_refl _) _).alloc (by simp) _)).mono ?_
  rintro e w' ⟨rfl, rfl⟩
  go_wp2_with fail
  refine (CD _).mono ?_
  rintro e w2 ⟨rfl, hk⟩
  have hs2 := hk.size
  simp at hs2
  have hrow : w2.heap[w.heap.size]? = some (.cells H 34 (0, 0)) := (hk.block _ (by simp; omega)).trans (heap_alloc2_old _ _ _)
  obtain ⟨Z, hZ, hres⟩ : ∃ Z : Array Value, Z.size = 47 ∧ w2.heap[w.heap.size + 1]? = some (.cells Z 42 (0, 0)) := ⟨_, rfl, (hk.block _ (by simp)).trans (heap_alloc2_new _ _ _)⟩
  have HZS : Hid (Z.size = 47) := hZ
  have hb0 : Below w.heap.size w w2 := (((Below.refl _ _).alloc (Nat.le_refl _) _).alloc (by simp) _).trans (hk.mono (by simp; omega))
  have k32 := (cell_of_row w2 w.heap.size 32 _ _ _ hrow).trans h32
  have k33 := (cell_of_row w2 w.heap.size 33 _ _ _ hrow).trans h33
  have kA := (cell_of_row w2 w.heap.size s1 _ _ _ hrow).trans hA
  have kB := (cell_of_row w2 w.heap.size s2 _ _ _ hrow).trans hB
  have kR := (cell_of_row w2 w.heap.size rd _ _ _ hrow).trans hR
  have kz : ∀ j, w2.frozen? ⟨w.heap.size, j, none⟩ = false := fun j => frozen_of_row _ _ j _ _ hrow
  have HR : Hid (w2.heap[w.heap.size]? = some (.cells H 34 (0, 0))) := hrow
  have HZ : Hid (w2.heap[w.heap.size + 1]? = some (.cells Z 42 (0, 0))) := hres
  have hs3 : w.heap.size < w2.heap.size := by omega
  have hs4 : w.heap.size + 1 < w2.heap.size := by omega
  clear hZ hk hrow hres hA hB hR h32 h33 h34 CL CD hs2
  go_wp2_with fail
  refine (CO _).mono ?_
  rintro e w' ⟨rfl, rfl⟩
  go_wp2_with fail
  refine (CN _).mono ?_
  rintro e w' ⟨rfl, rfl⟩
  go_wp2_with fail
  refine (CT _).mono ?_
  rintro e w' ⟨rfl, rfl⟩
  go_upto_region 69 with fail
  go_wp2_with (first | (refine wpList_load_row rfl 34 _ rfl _ rfl 34 _ (0, 0) _ (row_up (heap_setCell_same _ _ _ _ _ _ HR.out) _ _) Tryd.underlying34 rfl (info_hart hD.out.hH) ?_) | (refine wpList_build3 rfl 42 0 1 2 _ _ _ rfl _ _ _ rfl rfl rfl _ hD.out.built ?_) | (refine wpList_store_row rfl 42 _ _ rfl _ _ rfl rfl 42 Z (row_up ((heap_setCell_other _ _ _ _ (by simp)).trans HZ.out) _ _) hD.out.info (HZS.out.trans hD.out.size.symm) hD.out.ones ?_))
  exact bodyPost_ret (v := .agg D) (results_cell_row Tryd.results18 _ _ _ 42 D (0, 0) _ rfl (setRow_heap _ _ _ _ _ _ (row_up ((heap_setCell_other _ _ _ _ (by simp)).trans HZ.out) _ _)) Tryd.underlying42 rfl hD.out.info) rfl ⟨rfl, below_row (((hb0.setCell (by simp) _).alloc (by simp; omega) _).alloc (by simp; omega) _) (by simp) _⟩

set_option maxRecDepth 20000 in
set_option maxHeartbeats 4000000 in
theorem qLui_1 (H : Array Value) (pc : Int) (p : Option Addr) (n c : Nat) (w : World) (X I N NX TH A B R0 : Int) (rd s1 s2 : Nat) (D : Array Value)
    (hH : H.size = 35) (hO : Ones H) (h32 : H[32]? = some (.int .u32 pc)) (h33 : H[33]? = some (.int .i64 0)) (h34 : H[34]? = some (.int .i64 0))
    (hA : H[s1]? = some (.int .u32 A)) (hB : H[s2]? = some (.int .u32 B)) (hR : H[rd]? = some (.int .u32 R0)) (l1 : s1 < 32) (l2 : s2 < 32) (lr : rd < 32) (i0 : -2147483648 ≤ I) (i1 : I ≤ 2147483647) (hz : ((rd : Int) != 0) = true)
    (CL : ∀ W, Below w.heap.size w W → Calls Tryd.prog 36 #[.slice p n c, .int .i64 13, .int .u32 pc] W fun e w' => e = .returned (.tuple #[.int .u32 X, .bool true]) ∧ w' = W)
    (CD : ∀ W, Calls Tryd.prog 12 #[.int .u32 X] W fun e w' => e = .returned (.tuple #[iv 1 rd s1 s2 I, .bool true]) ∧ Below W.heap.size W w')
    (CO : ∀ W, Calls Tryd.prog 38 #[.int .i64 I] W fun e w' => e = .returned (.int .u32 N) ∧ w' = W)
    (CN : ∀ W, Calls Tryd.prog 39 #[.int .u32 pc, .int .u32 4] W fun e w' => e = .returned (.int .u32 NX) ∧ w' = W)
    (CT : ∀ W, Calls Tryd.prog 39 #[.int .u32 A, .int .u32 N] W fun e w' => e = .returned (.int .u32 TH) ∧ w' = W)
    (hD : Hid (Did D (ccs pc NX 0 0 rd N 0 0 0 false 0) ((H.setIfInBounds rd (.int .u32 N)).setIfInBounds 32 (.int .u32 NX)) p n c)) :
    Calls Tryd.prog 18 #[.agg H, .slice p n c] w fun e w' => e = .returned (.agg D) ∧ Below w.heap.size w w' := by
  have HH : Hid (H.size = 35) := hH
  have HO : Hid (Ones H) := hO
  clear hH hO
  go_enter Tryd.func18, Tryd.ntmps18
  go_wp2_with fail
  refine (CL _ (((Below.refl _ _).alloc (Nat.le_refl _) _).alloc (by simp) _)).mono ?_
  rintro e w' ⟨rfl, rfl⟩
  go_wp2_with fail
  refine (CD _).mono ?_
  rintro e w2 ⟨rfl, hk⟩
  have hs2 := hk.size
  simp at hs2
  have hrow : w2.heap[w.heap.size]? = some (.cells H 34 (0, 0)) := (hk.block _ (by simp; omega)).trans (heap_alloc2_old _ _ _)
  obtain ⟨Z, hZ, hres⟩ : ∃ Z : Array Value, Z.size = 47 ∧ w2.heap[w.heap.size + 1]? = some (.cells Z 42 (0, 0)) := ⟨_, rfl, (hk.block _ (by simp)).trans (heap_alloc2_new _ _ _)⟩
  have HZS : Hid (Z.size = 47) := hZ
  have hb0 : Below w.heap.size w w2 := (((Below.refl _ _).alloc (Nat.le_refl _) _).alloc (by simp) _).trans (hk.mono (by simp; omega))
  have k32 := (cell_of_row w2 w.heap.size 32 _ _ _ hrow).trans h32
  have k33 := (cell_of_row w2 w.heap.size 33 _ _ _ hrow).trans h33
  have kA := (cell_of_row w2 w.heap.size s1 _ _ _ hrow).trans hA
  have kB := (cell_of_row w2 w.heap.size s2 _ _ _ hrow).trans hB
  have kR := (cell_of_row w2 w.heap.size rd _ _ _ hrow).trans hR
  have kz : ∀ j, w2.frozen? ⟨w.heap.size, j, none⟩ = false := fun j => frozen_of_row _ _ j _ _ hrow
  have HR : Hid (w2.heap[w.heap.size]? = some (.cells H 34 (0, 0))) := hrow
  have HZ : Hid (w2.heap[w.heap.size + 1]? = some (.cells Z 42 (0, 0))) := hres
  have hs3 : w.heap.size < w2.heap.size := by omega
  have hs4 : w.heap.size + 1 < w2.heap.size := by omega
  clear hZ hk hrow hres hA hB hR h32 h33 h34 CL CD hs2
  go_wp2_with fail
  refine (CO _).mono ?_
  rintro e w' ⟨rfl, rfl⟩
  go_wp2_with fail
  refine (CN _).mono ?_
  rintro e w' ⟨rfl, rfl⟩
  go_wp2_with fail
  refine (CT _).mono ?_
  rintro e w' ⟨rfl, rfl⟩
  go_upto_region 69 with fail
  go_wp2_with (first | (refine wpList_load_row rfl 34 _ rfl _ rfl 34 _ (0, 0) _ (row_up (heap_setCell_same _ _ _ _ _ _ (heap_setCell_same _ _ _ _ _ _ HR.out)) _ _) Tryd.underlying34 rfl (info_hart hD.out.hH) ?_) | (refine wpList_build3 rfl 42 0 1 2 _ _ _ rfl _ _ _ rfl rfl rfl _ hD.out.built ?_) | (refine wpList_store_row rfl 42 _ _ rfl _ _ rfl rfl 42 Z (row_up ((heap_setCell_other _ _ _ _ (by simp)).trans ((heap_setCell_other _ _ _ _ (by simp)).trans HZ.out)) _ _) hD.out.info (HZS.out.trans hD.out.size.symm) hD.out.ones ?_))
  exact bodyPost_ret (v := .agg D) (results_cell_row Tryd.results18 _ _ _ 42 D (0, 0) _ rfl (setRow_heap _ _ _ _ _ _ (row_up ((heap_setCell_other _ _ _ _ (by simp)).trans ((heap_setCell_other _ _ _ _ (by simp)).trans HZ.out)) _ _)) Tryd.underlying42 rfl hD.out.info) rfl ⟨rfl, below_row ((((hb0.setCell (by simp) _).setCell (by simp) _).alloc (by simp; omega) _).alloc (by simp; omega) _) (by simp) _⟩

set_option maxRecDepth 20000 in
set_option maxHeartbeats 4000000 in
theorem qAuipc_0 (H : Array Value) (pc : Int) (p : Option Addr) (n c : Nat) (w : World) (X I N NX TH A B R0 : Int) (rd s1 s2 : Nat) (D : Array Value) (PN : Int)
    (hH : H.size = 35) (hO : Ones H) (h32 : H[32]? = some (.int .u32 pc)) (h33 : H[33]? = some (.int .i64 0)) (h34 : H[34]? = some (.int .i64 0))
    (hA : H[s1]? = some (.int .u32 A)) (hB : H[s2]? = some (.int .u32 B)) (hR : H[rd]? = some (.int .u32 R0)) (l1 : s1 < 32) (l2 : s2 < 32) (lr : rd < 32) (i0 : -2147483648 ≤ I) (i1 : I ≤ 2147483647) (hz : ((rd : Int) != 0) = false)
    (CL : ∀ W, Below w.heap.size w W → Calls Tryd.prog 36 #[.slice p n c, .int .i64 13, .int .u32 pc] W fun e w' => e = .returned (.tuple #[.int .u32 X, .bool true]) ∧ w' = W)
    (CD : ∀ W, Calls Tryd.prog 12 #[.int .u32 X] W fun e w' => e = .returned (.tuple #[iv 2 rd s1 s2 I, .bool true]) ∧ Below W.heap.size W w')
    (CO : ∀ W, Calls Tryd.prog 38 #[.int .i64 I] W fun e w' => e = .returned (.int .u32 N) ∧ w' = W)
    (CN : ∀ W, Calls Tryd.prog 39 #[.int .u32 pc, .int .u32 4] W fun e w' => e = .returned (.int .u32 NX) ∧ w' = W)
    (CT : ∀ W, Calls Tryd.prog 39 #[.int .u32 A, .int .u32 N] W fun e w' => e = .returned (.int .u32 TH) ∧ w' = W)
    (CS : ∀ W, Calls Tryd.prog 39 #[.int .u32 pc, .int .u32 N] W fun e w' => e = .returned (.int .u32 PN) ∧ w' = W)
    (hD : Hid (Did D (ccs pc NX 0 0 0 0 0 0 0 false 0) (H.setIfInBounds 32 (.int .u32 NX)) p n c)) :
    Calls Tryd.prog 18 #[.agg H, .slice p n c] w fun e w' => e = .returned (.agg D) ∧ Below w.heap.size w w' := by
  have HH : Hid (H.size = 35) := hH
  have HO : Hid (Ones H) := hO
  clear hH hO
  go_enter Tryd.func18, Tryd.ntmps18
  go_wp2_with fail
  refine (CL _ (((Below.refl _ _).alloc (Nat.le_refl _) _).alloc (by simp) _)).mono ?_
  rintro e w' ⟨rfl, rfl⟩
  go_wp2_with fail
  refine (CD _).mono ?_
  rintro e w2 ⟨rfl, hk⟩
  have hs2 := hk.size
  simp at hs2
  have hrow : w2.heap[w.heap.size]? = some (.cells H 34 (0, 0)) := (hk.block _ (by simp; omega)).trans (heap_alloc2_old _ _ _)
  obtain ⟨Z, hZ, hres⟩ : ∃ Z : Array Value, Z.size = 47 ∧ w2.heap[w.heap.size + 1]? = some (.cells Z 42 (0, 0)) := ⟨_, rfl, (hk.block _ (by simp)).trans (heap_alloc2_new _ _ _)⟩
  have HZS : Hid (Z.size = 47) := hZ
  have hb0 : Below w.heap.size w w2 := (((Below.refl _ _).alloc (Nat.le_refl _) _).alloc (by simp) _).trans (hk.mono (by simp; omega))
  have k32 := (cell_of_row w2 w.heap.size 32 _ _ _ hrow).trans h32
  have k33 := (cell_of_row w2 w.heap.size 33 _ _ _ hrow).trans h33
  have kA := (cell_of_row w2 w.heap.size s1 _ _ _ hrow).trans hA
  have kB := (cell_of_row w2 w.heap.size s2 _ _ _ hrow).trans hB
  have kR := (cell_of_row w2 w.heap.size rd _ _ _ hrow).trans hR
  have kz : ∀ j, w2.frozen? ⟨w.heap.size, j, none⟩ = false := fun j => frozen_of_row _ _ j _ _ hrow
  have HR : Hid (w2.heap[w.heap.size]? = some (.cells H 34 (0, 0))) := hrow
  have HZ : Hid (w2.heap[w.heap.size + 1]? = some (.cells Z 42 (0, 0))) := hres
  have hs3 : w.heap.size < w2.heap.size := by omega
  have hs4 : w.heap.size + 1 < w2.heap.size := by omega
  clear hZ hk hrow hres hA hB hR h32 h33 h34 CL CD hs2
  go_wp2_with fail
  refine (CO _).mono ?_
  rintro e w' ⟨rfl, rfl⟩
  go_wp2_with fail
  refine (CN _).mono ?_
  rintro e w' ⟨rfl, rfl⟩
  go_wp2_with fail
  refine (CT _).mono ?_
  rintro e w' ⟨rfl, rfl⟩
  go_wp2_with fail
  refine (CS _).mono ?_
  rintro e w' ⟨rfl, rfl⟩
  go_upto_region 69 with fail
  go_wp2_with (first | (refine wpList_load_row rfl 34 _ rfl _ rfl 34 _ (0, 0) _ (row_up (heap_setCell_same _ _ _ _ _ _ HR.out) _ _) Tryd.underlying34 rfl (info_hart hD.out.hH) ?_) | (refine wpList_build3 rfl 42 0 1 2 _ _ _ rfl _ _ _ rfl rfl rfl _ hD.out.built ?_) | (refine wpList_store_row rfl 42 _ _ rfl _ _ rfl rfl 42 Z (row_up ((heap_setCell_other _ _ _ _ (by simp)).trans HZ.out) _ _) hD.out.info (HZS.out.trans hD.out.size.symm) hD.out.ones ?_))
  exact bodyPost_ret (v := .agg D) (results_cell_row Tryd.results18 _ _ _ 42 D (0, 0) _ rfl (setRow_heap _ _ _ _ _ _ (row_up ((heap_setCell_other _ _ _ _ (by simp)).trans HZ.out) _ _)) Tryd.underlying42 rfl hD.out.info) rfl ⟨rfl, below_row (((hb0.setCell (by simp) _).alloc (by simp; omega) _).alloc (by simp; omega) _) (by simp) _⟩

set_option maxRecDepth 20000 in
set_option maxHeartbeats 4000000 in
theorem qAuipc_1 (H : Array Value) (pc : Int) (p : Option Addr) (n c : Nat) (w : World) (X I N NX TH A B R0 : Int) (rd s1 s2 : Nat) (D : Array Value) (PN : Int)
    (hH : H.size = 35) (hO : Ones H) (h32 : H[32]? = some (.int .u32 pc)) (h33 : H[33]? = some (.int .i64 0)) (h34 : H[34]? = some (.int .i64 0))
    (hA : H[s1]? = some (.int .u32 A)) (hB : H[s2]? = some (.int .u32 B)) (hR : H[rd]? = some (.int .u32 R0)) (l1 : s1 < 32) (l2 : s2 < 32) (lr : rd < 32) (i0 : -2147483648 ≤ I) (i1 : I ≤ 2147483647) (hz : ((rd : Int) != 0) = true)
    (CL : ∀ W, Below w.heap.size w W → Calls Tryd.prog 36 #[.slice p n c, .int .i64 13, .int .u32 pc] W fun e w' => e = .returned (.tuple #[.int .u32 X, .bool true]) ∧ w' = W)
    (CD : ∀ W, Calls Tryd.prog 12 #[.int .u32 X] W fun e w' => e = .returned (.tuple #[iv 2 rd s1 s2 I, .bool true]) ∧ Below W.heap.size W w')
    (CO : ∀ W, Calls Tryd.prog 38 #[.int .i64 I] W fun e w' => e = .returned (.int .u32 N) ∧ w' = W)
    (CN : ∀ W, Calls Tryd.prog 39 #[.int .u32 pc, .int .u32 4] W fun e w' => e = .returned (.int .u32 NX) ∧ w' = W)
    (CT : ∀ W, Calls Tryd.prog 39 #[.int .u32 A, .int .u32 N] W fun e w' => e = .returned (.int .u32 TH) ∧ w' = W)
    (CS : ∀ W, Calls Tryd.prog 39 #[.int .u32 pc, .int .u32 N] W fun e w' => e = .returned (.int .u32 PN) ∧ w' = W)
    (hD : Hid (Did D (ccs pc NX 0 0 rd PN 0 0 0 false 0) ((H.setIfInBounds rd (.int .u32 PN)).setIfInBounds 32 (.int .u32 NX)) p n c)) :
    Calls Tryd.prog 18 #[.agg H, .slice p n c] w fun e w' => e = .returned (.agg D) ∧ Below w.heap.size w w' := by
  have HH : Hid (H.size = 35) := hH
  have HO : Hid (Ones H) := hO
  clear hH hO
  go_enter Tryd.func18, Tryd.ntmps18
  go_wp2_with fail
  refine (CL _ (((Below.refl _ _).alloc (Nat.le_refl _) _).alloc (by simp) _)).mono ?_
  rintro e w' ⟨rfl, rfl⟩
  go_wp2_with fail
  refine (CD _).mono ?_
  rintro e w2 ⟨rfl, hk⟩
  have hs2 := hk.size
  simp at hs2
  have hrow : w2.heap[w.heap.size]? = some (.cells H 34 (0, 0)) := (hk.block _ (by simp; omega)).trans (heap_alloc2_old _ _ _)
  obtain ⟨Z, hZ, hres⟩ : ∃ Z : Array Value, Z.size = 47 ∧ w2.heap[w.heap.size + 1]? = some (.cells Z 42 (0, 0)) := ⟨_, rfl, (hk.block _ (by simp)).trans (heap_alloc2_new _ _ _)⟩
  have HZS : Hid (Z.size = 47) := hZ
  have hb0 : Below w.heap.size w w2 := (((Below.refl _ _).alloc (Nat.le_refl _) _).alloc (by simp) _).trans (hk.mono (by simp; omega))
  have k32 := (cell_of_row w2 w.heap.size 32 _ _ _ hrow).trans h32
  have k33 := (cell_of_row w2 w.heap.size 33 _ _ _ hrow).trans h33
  have kA := (cell_of_row w2 w.heap.size s1 _ _ _ hrow).trans hA
  have kB := (cell_of_row w2 w.heap.size s2 _ _ _ hrow).trans hB
  have kR := (cell_of_row w2 w.heap.size rd _ _ _ hrow).trans hR
  have kz : ∀ j, w2.frozen? ⟨w.heap.size, j, none⟩ = false := fun j => frozen_of_row _ _ j _ _ hrow
  have HR : Hid (w2.heap[w.heap.size]? = some (.cells H 34 (0, 0))) := hrow
  have HZ : Hid (w2.heap[w.heap.size + 1]? = some (.cells Z 42 (0, 0))) := hres
  have hs3 : w.heap.size < w2.heap.size := by omega
  have hs4 : w.heap.size + 1 < w2.heap.size := by omega
  clear hZ hk hrow hres hA hB hR h32 h33 h34 CL CD hs2
  go_wp2_with fail
  refine (CO _).mono ?_
  rintro e w' ⟨rfl, rfl⟩
  go_wp2_with fail
  refine (CN _).mono ?_
  rintro e w' ⟨rfl, rfl⟩
  go_wp2_with fail
  refine (CT _).mono ?_
  rintro e w' ⟨rfl, rfl⟩
  go_wp2_with fail
  refine (CS _).mono ?_
  rintro e w' ⟨rfl, rfl⟩
  go_upto_region 69 with fail
  go_wp2_with (first | (refine wpList_load_row rfl 34 _ rfl _ rfl 34 _ (0, 0) _ (row_up (heap_setCell_same _ _ _ _ _ _ (heap_setCell_same _ _ _ _ _ _ HR.out)) _ _) Tryd.underlying34 rfl (info_hart hD.out.hH) ?_) | (refine wpList_build3 rfl 42 0 1 2 _ _ _ rfl _ _ _ rfl rfl rfl _ hD.out.built ?_) | (refine wpList_store_row rfl 42 _ _ rfl _ _ rfl rfl 42 Z (row_up ((heap_setCell_other _ _ _ _ (by simp)).trans ((heap_setCell_other _ _ _ _ (by simp)).trans HZ.out)) _ _) hD.out.info (HZS.out.trans hD.out.size.symm) hD.out.ones ?_))
  exact bodyPost_ret (v := .agg D) (results_cell_row Tryd.results18 _ _ _ 42 D (0, 0) _ rfl (setRow_heap _ _ _ _ _ _ (row_up ((heap_setCell_other _ _ _ _ (by simp)).trans ((heap_setCell_other _ _ _ _ (by simp)).trans HZ.out)) _ _)) Tryd.underlying42 rfl hD.out.info) rfl ⟨rfl, below_row ((((hb0.setCell (by simp) _).setCell (by simp) _).alloc (by simp; omega) _).alloc (by simp; omega) _) (by simp) _⟩

set_option maxRecDepth 20000 in
set_option maxHeartbeats 4000000 in
theorem qJal_0 (H : Array Value) (pc : Int) (p : Option Addr) (n c : Nat) (w : World) (X I N NX TH A B R0 : Int) (rd s1 s2 : Nat) (D : Array Value) (PN : Int)
    (hH : H.size = 35) (hO : Ones H) (h32 : H[32]? = some (.int .u32 pc)) (h33 : H[33]? = some (.int .i64 0)) (h34 : H[34]? = some (.int .i64 0))
    (hA : H[s1]? = some (.int .u32 A)) (hB : H[s2]? = some (.int .u32 B)) (hR : H[rd]? = some (.int .u32 R0)) (l1 : s1 < 32) (l2 : s2 < 32) (lr : rd < 32) (i0 : -2147483648 ≤ I) (i1 : I ≤ 2147483647) (hz : ((rd : Int) != 0) = false)
    (CL : ∀ W, Below w.heap.size w W → Calls Tryd.prog 36 #[.slice p n c, .int .i64 13, .int .u32 pc] W fun e w' => e = .returned (.tuple #[.int .u32 X, .bool true]) ∧ w' = W)
    (CD : ∀ W, Calls Tryd.prog 12 #[.int .u32 X] W fun e w' => e = .returned (.tuple #[iv 3 rd s1 s2 I, .bool true]) ∧ Below W.heap.size W w')
    (CO : ∀ W, Calls Tryd.prog 38 #[.int .i64 I] W fun e w' => e = .returned (.int .u32 N) ∧ w' = W)
    (CN : ∀ W, Calls Tryd.prog 39 #[.int .u32 pc, .int .u32 4] W fun e w' => e = .returned (.int .u32 NX) ∧ w' = W)
    (CT : ∀ W, Calls Tryd.prog 39 #[.int .u32 A, .int .u32 N] W fun e w' => e = .returned (.int .u32 TH) ∧ w' = W)
    (CS : ∀ W, Calls Tryd.prog 39 #[.int .u32 pc, .int .u32 N] W fun e w' => e = .returned (.int .u32 PN) ∧ w' = W)
    (hD : Hid (Did D (ccs pc PN 0 0 0 0 0 0 0 false 0) (H.setIfInBounds 32 (.int .u32 PN)) p n c)) :
    Calls Tryd.prog 18 #[.agg H, .slice p n c] w fun e w' => e = .returned (.agg D) ∧ Below w.heap.size w w' := by
  have HH : Hid (H.size = 35) := hH
  have HO : Hid (Ones H) := hO
  clear hH hO
  go_enter Tryd.func18, Tryd.ntmps18
  go_wp2_with fail
  refine (CL _ (((Below.refl _ _).alloc (Nat.le_refl _) _).alloc (by simp) _)).mono ?_
  rintro e w' ⟨rfl, rfl⟩
  go_wp2_with fail
  refine (CD _).mono ?_
  rintro e w2 ⟨rfl, hk⟩
  have hs2 := hk.size
  simp at hs2
  have hrow : w2.heap[w.heap.size]? = some (.cells H 34 (0, 0)) := (hk.block _ (by simp; omega)).trans (heap_alloc2_old _ _ _)
  obtain ⟨Z, hZ, hres⟩ : ∃ Z : Array Value, Z.size = 47 ∧ w2.heap[w.heap.size + 1]? = some (.cells Z 42 (0, 0)) := ⟨_, rfl, (hk.block _ (by simp)).trans (heap_alloc2_new _ _ _)⟩
  have HZS : Hid (Z.size = 47) := hZ
  have hb0 : Below w.heap.size w w2 := (((Below.refl _ _).alloc (Nat.le_refl _) _).alloc (by simp) _).trans (hk.mono (by simp; omega))
  have k32 := (cell_of_row w2 w.heap.size 32 _ _ _ hrow).trans h32
  have k33 := (cell_of_row w2 w.heap.size 33 _ _ _ hrow).trans h33
  have kA := (cell_of_row w2 w.heap.size s1 _ _ _ hrow).trans hA
  have kB := (cell_of_row w2 w.heap.size s2 _ _ _ hrow).trans hB
  have kR := (cell_of_row w2 w.heap.size rd _ _ _ hrow).trans hR
  have kz : ∀ j, w2.frozen? ⟨w.heap.size, j, none⟩ = false := fun j => frozen_of_row _ _ j _ _ hrow
  have HR : Hid (w2.heap[w.heap.size]? = some (.cells H 34 (0, 0))) := hrow
  have HZ : Hid (w2.heap[w.heap.size + 1]? = some (.cells Z 42 (0, 0))) := hres
  have hs3 : w.heap.size < w2.heap.size := by omega
  have hs4 : w.heap.size + 1 < w2.heap.size := by omega
  clear hZ hk hrow hres hA hB hR h32 h33 h34 CL CD hs2
  go_wp2_with fail
  refine (CO _).mono ?_
  rintro e w' ⟨rfl, rfl⟩
  go_wp2_with fail
  refine (CN _).mono ?_
  rintro e w' ⟨rfl, rfl⟩
  go_wp2_with fail
  refine (CT _).mono ?_
  rintro e w' ⟨rfl, rfl⟩
  go_wp2_with fail
  refine (CS _).mono ?_
  rintro e w' ⟨rfl, rfl⟩
  go_upto_region 69 with fail
  go_wp2_with (first | (refine wpList_load_row rfl 34 _ rfl _ rfl 34 _ (0, 0) _ (row_up (heap_setCell_same _ _ _ _ _ _ HR.out) _ _) Tryd.underlying34 rfl (info_hart hD.out.hH) ?_) | (refine wpList_build3 rfl 42 0 1 2 _ _ _ rfl _ _ _ rfl rfl rfl _ hD.out.built ?_) | (refine wpList_store_row rfl 42 _ _ rfl _ _ rfl rfl 42 Z (row_up ((heap_setCell_other _ _ _ _ (by simp)).trans HZ.out) _ _) hD.out.info (HZS.out.trans hD.out.size.symm) hD.out.ones ?_))
  exact bodyPost_ret (v := .agg D) (results_cell_row Tryd.results18 _ _ _ 42 D (0, 0) _ rfl (setRow_heap _ _ _ _ _ _ (row_up ((heap_setCell_other _ _ _ _ (by simp)).trans HZ.out) _ _)) Tryd.underlying42 rfl hD.out.info) rfl ⟨rfl, below_row (((hb0.setCell (by simp) _).alloc (by simp; omega) _).alloc (by simp; omega) _) (by simp) _⟩

set_option maxRecDepth 20000 in
set_option maxHeartbeats 4000000 in
theorem qJal_1 (H : Array Value) (pc : Int) (p : Option Addr) (n c : Nat) (w : World) (X I N NX TH A B R0 : Int) (rd s1 s2 : Nat) (D : Array Value) (PN : Int)
    (hH : H.size = 35) (hO : Ones H) (h32 : H[32]? = some (.int .u32 pc)) (h33 : H[33]? = some (.int .i64 0)) (h34 : H[34]? = some (.int .i64 0))
    (hA : H[s1]? = some (.int .u32 A)) (hB : H[s2]? = some (.int .u32 B)) (hR : H[rd]? = some (.int .u32 R0)) (l1 : s1 < 32) (l2 : s2 < 32) (lr : rd < 32) (i0 : -2147483648 ≤ I) (i1 : I ≤ 2147483647) (hz : ((rd : Int) != 0) = true)
    (CL : ∀ W, Below w.heap.size w W → Calls Tryd.prog 36 #[.slice p n c, .int .i64 13, .int .u32 pc] W fun e w' => e = .returned (.tuple #[.int .u32 X, .bool true]) ∧ w' = W)
    (CD : ∀ W, Calls Tryd.prog 12 #[.int .u32 X] W fun e w' => e = .returned (.tuple #[iv 3 rd s1 s2 I, .bool true]) ∧ Below W.heap.size W w')
    (CO : ∀ W, Calls Tryd.prog 38 #[.int .i64 I] W fun e w' => e = .returned (.int .u32 N) ∧ w' = W)
    (CN : ∀ W, Calls Tryd.prog 39 #[.int .u32 pc, .int .u32 4] W fun e w' => e = .returned (.int .u32 NX) ∧ w' = W)
    (CT : ∀ W, Calls Tryd.prog 39 #[.int .u32 A, .int .u32 N] W fun e w' => e = .returned (.int .u32 TH) ∧ w' = W)
    (CS : ∀ W, Calls Tryd.prog 39 #[.int .u32 pc, .int .u32 N] W fun e w' => e = .returned (.int .u32 PN) ∧ w' = W)
    (hD : Hid (Did D (ccs pc PN 0 0 rd NX 0 0 0 false 0) ((H.setIfInBounds rd (.int .u32 NX)).setIfInBounds 32 (.int .u32 PN)) p n c)) :
    Calls Tryd.prog 18 #[.agg H, .slice p n c] w fun e w' => e = .returned (.agg D) ∧ Below w.heap.size w w' := by
  have HH : Hid (H.size = 35) := hH
  have HO : Hid (Ones H) := hO
  clear hH hO
  go_enter Tryd.func18, Tryd.ntmps18
  go_wp2_with fail
  refine (CL _ (((Below.refl _ _).alloc (Nat.le_refl _) _).alloc (by simp) _)).mono ?_
  rintro e w' ⟨rfl, rfl⟩
  go_wp2_with fail
  refine (CD _).mono ?_
  rintro e w2 ⟨rfl, hk⟩
  have hs2 := hk.size
  simp at hs2
  have hrow : w2.heap[w.heap.size]? = some (.cells H 34 (0, 0)) := (hk.block _ (by simp; omega)).trans (heap_alloc2_old _ _ _)
  obtain ⟨Z, hZ, hres⟩ : ∃ Z : Array Value, Z.size = 47 ∧ w2.heap[w.heap.size + 1]? = some (.cells Z 42 (0, 0)) := ⟨_, rfl, (hk.block _ (by simp)).trans (heap_alloc2_new _ _ _)⟩
  have HZS : Hid (Z.size = 47) := hZ
  have hb0 : Below w.heap.size w w2 := (((Below.refl _ _).alloc (Nat.le_refl _) _).alloc (by simp) _).trans (hk.mono (by simp; omega))
  have k32 := (cell_of_row w2 w.heap.size 32 _ _ _ hrow).trans h32
  have k33 := (cell_of_row w2 w.heap.size 33 _ _ _ hrow).trans h33
  have kA := (cell_of_row w2 w.heap.size s1 _ _ _ hrow).trans hA
  have kB := (cell_of_row w2 w.heap.size s2 _ _ _ hrow).trans hB
  have kR := (cell_of_row w2 w.heap.size rd _ _ _ hrow).trans hR
  have kz : ∀ j, w2.frozen? ⟨w.heap.size, j, none⟩ = false := fun j => frozen_of_row _ _ j _ _ hrow
  have HR : Hid (w2.heap[w.heap.size]? = some (.cells H 34 (0, 0))) := hrow
  have HZ : Hid (w2.heap[w.heap.size + 1]? = some (.cells Z 42 (0, 0))) := hres
  have hs3 : w.heap.size < w2.heap.size := by omega
  have hs4 : w.heap.size + 1 < w2.heap.size := by omega
  clear hZ hk hrow hres hA hB hR h32 h33 h34 CL CD hs2
  go_wp2_with fail
  refine (CO _).mono ?_
  rintro e w' ⟨rfl, rfl⟩
  go_wp2_with fail
  refine (CN _).mono ?_
  rintro e w' ⟨rfl, rfl⟩
  go_wp2_with fail
  refine (CT _).mono ?_
  rintro e w' ⟨rfl, rfl⟩
  go_wp2_with fail
  refine (CS _).mono ?_
  rintro e w' ⟨rfl, rfl⟩
  go_upto_region 69 with fail
  go_wp2_with (first | (refine wpList_load_row rfl 34 _ rfl _ rfl 34 _ (0, 0) _ (row_up (heap_setCell_same _ _ _ _ _ _ (heap_setCell_same _ _ _ _ _ _ HR.out)) _ _) Tryd.underlying34 rfl (info_hart hD.out.hH) ?_) | (refine wpList_build3 rfl 42 0 1 2 _ _ _ rfl _ _ _ rfl rfl rfl _ hD.out.built ?_) | (refine wpList_store_row rfl 42 _ _ rfl _ _ rfl rfl 42 Z (row_up ((heap_setCell_other _ _ _ _ (by simp)).trans ((heap_setCell_other _ _ _ _ (by simp)).trans HZ.out)) _ _) hD.out.info (HZS.out.trans hD.out.size.symm) hD.out.ones ?_))
  exact bodyPost_ret (v := .agg D) (results_cell_row Tryd.results18 _ _ _ 42 D (0, 0) _ rfl (setRow_heap _ _ _ _ _ _ (row_up ((heap_setCell_other _ _ _ _ (by simp)).trans ((heap_setCell_other _ _ _ _ (by simp)).trans HZ.out)) _ _)) Tryd.underlying42 rfl hD.out.info) rfl ⟨rfl, below_row ((((hb0.setCell (by simp) _).setCell (by simp) _).alloc (by simp; omega) _).alloc (by simp; omega) _) (by simp) _⟩

end Go.Proofs.YtpiohehijkpghaaDoor
namespace Go.Proofs.YtpiohehijkpghaaDoor
open Go.RowKit
open Hy
set_option linter.unusedVariables false

set_option maxRecDepth 20000 in
set_option maxHeartbeats 4000000 in
theorem qJalr_0 (H : Array Value) (pc : Int) (p : Option Addr) (n c : Nat) (w : World) (X I N NX TH A B R0 : Int) (rd s1 s2 : Nat) (D : Array Value) (t0 : 0 ≤ TH) (t1 : TH ≤ 4294967295)
    (hH : H.size = 35) (hO : Ones H) (h32 : H[32]? = some (.int .u32 pc)) (h33 : H[33]? = some (.int .i64 0)) (h34 : H[34]? = some (.int .i64 0))
    (hA : H[s1]? = some (.int .u32 A)) (hB : H[s2]? = some (.int .u32 B)) (hR : H[rd]? = some (.int .u32 R0)) (l1 : s1 < 32) (l2 : s2 < 32) (lr : rd < 32) (i0 : -2147483648 ≤ I) (i1 : I ≤ 2147483647) (hz : ((rd : Int) != 0) = false)
    (CL : ∀ W, Below w.heap.size w W → Calls Tryd.prog 36 #[.slice p n c, .int .i64 13, .int .u32 pc] W fun e w' => e = .returned (.tuple #[.int .u32 X, .bool true]) ∧ w' = W)
    (CD : ∀ W, Calls Tryd.prog 12 #[.int .u32 X] W fun e w' => e = .returned (.tuple #[iv 4 rd s1 s2 I, .bool true]) ∧ Below W.heap.size W w')
    (CO : ∀ W, Calls Tryd.prog 38 #[.int .i64 I] W fun e w' => e = .returned (.int .u32 N) ∧ w' = W)
    (CN : ∀ W, Calls Tryd.prog 39 #[.int .u32 pc, .int .u32 4] W fun e w' => e = .returned (.int .u32 NX) ∧ w' = W)
    (CT : ∀ W, Calls Tryd.prog 39 #[.int .u32 A, .int .u32 N] W fun e w' => e = .returned (.int .u32 TH) ∧ w' = W)
    (hD : Hid (Did D (ccs pc (TH - TH % 2) 0 0 0 0 0 0 0 false 0) (H.setIfInBounds 32 (.int .u32 (TH - TH % 2))) p n c)) :
    Calls Tryd.prog 18 #[.agg H, .slice p n c] w fun e w' => e = .returned (.agg D) ∧ Below w.heap.size w w' := by
  have HH : Hid (H.size = 35) := hH
  have HO : Hid (Ones H) := hO
  clear hH hO
  go_enter Tryd.func18, Tryd.ntmps18
  go_wp2_with fail
  refine (CL _ (((Below.refl _ _).alloc (Nat.le_refl _) _).alloc (by simp) _)).mono ?_
  rintro e w' ⟨rfl, rfl⟩
  go_wp2_with fail
  refine (CD _).mono ?_
  rintro e w2 ⟨rfl, hk⟩
  have hs2 := hk.size
  simp at hs2
  have hrow : w2.heap[w.heap.size]? = some (.cells H 34 (0, 0)) := (hk.block _ (by simp; omega)).trans (heap_alloc2_old _ _ _)
  obtain ⟨Z, hZ, hres⟩ : ∃ Z : Array Value, Z.size = 47 ∧ w2.heap[w.heap.size + 1]? = some (.cells Z 42 (0, 0)) := ⟨_, rfl, (hk.block _ (by simp)).trans (heap_alloc2_new _ _ _)⟩
  have HZS : Hid (Z.size = 47) := hZ
  have hb0 : Below w.heap.size w w2 := (((Below.refl _ _).alloc (Nat.le_refl _) _).alloc (by simp) _).trans (hk.mono (by simp; omega))
  have k32 := (cell_of_row w2 w.heap.size 32 _ _ _ hrow).trans h32
  have k33 := (cell_of_row w2 w.heap.size 33 _ _ _ hrow).trans h33
  have kA := (cell_of_row w2 w.heap.size s1 _ _ _ hrow).trans hA
  have kB := (cell_of_row w2 w.heap.size s2 _ _ _ hrow).trans hB
  have kR := (cell_of_row w2 w.heap.size rd _ _ _ hrow).trans hR
  have kz : ∀ j, w2.frozen? ⟨w.heap.size, j, none⟩ = false := fun j => frozen_of_row _ _ j _ _ hrow
  have HR : Hid (w2.heap[w.heap.size]? = some (.cells H 34 (0, 0))) := hrow
  have HZ : Hid (w2.heap[w.heap.size + 1]? = some (.cells Z 42 (0, 0))) := hres
  have hs3 : w.heap.size < w2.heap.size := by omega
  have hs4 : w.heap.size + 1 < w2.heap.size := by omega
  clear hZ hk hrow hres hA hB hR h32 h33 h34 CL CD hs2
  go_wp2_with fail
  refine (CO _).mono ?_
  rintro e w' ⟨rfl, rfl⟩
  go_wp2_with fail
  refine (CN _).mono ?_
  rintro e w' ⟨rfl, rfl⟩
  go_wp2_with fail
  refine (CT _).mono ?_
  rintro e w' ⟨rfl, rfl⟩
  go_upto_region 69 with fail
  go_wp2_with (first | (refine wpList_load_row rfl 34 _ rfl _ rfl 34 _ (0, 0) _ (row_up (heap_setCell_same _ _ _ _ _ _ HR.out) _ _) Tryd.underlying34 rfl (info_hart hD.out.hH) ?_) | (refine wpList_build3 rfl 42 0 1 2 _ _ _ rfl _ _ _ rfl rfl rfl _ hD.out.built ?_) | (refine wpList_store_row rfl 42 _ _ rfl _ _ rfl rfl 42 Z (row_up ((heap_setCell_other _ _ _ _ (by simp)).trans HZ.out) _ _) hD.out.info (HZS.out.trans hD.out.size.symm) hD.out.ones ?_))
  exact bodyPost_ret (v := .agg D) (results_cell_row Tryd.results18 _ _ _ 42 D (0, 0) _ rfl (setRow_heap _ _ _ _ _ _ (row_up ((heap_setCell_other _ _ _ _ (by simp)).trans HZ.out) _ _)) Tryd.underlying42 rfl hD.out.info) rfl ⟨rfl, below_row (((hb0.setCell (by simp) _).alloc (by simp; omega) _).alloc (by simp; omega) _) (by simp) _⟩

set_option maxRecDepth 20000 in
set_option maxHeartbeats 4000000 in
theorem qJalr_1 (H : Array Value) (pc : Int) (p : Option Addr) (n c : Nat) (w : World) (X I N NX TH A B R0 : Int) (rd s1 s2 : Nat) (D : Array Value) (t0 : 0 ≤ TH) (t1 : TH ≤ 4294967295)
    (hH : H.size = 35) (hO : Ones H) (h32 : H[32]? = some (.int .u32 pc)) (h33 : H[33]? = some (.int .i64 0)) (h34 : H[34]? = some (.int .i64 0))
    (hA : H[s1]? = some (.int .u32 A)) (hB : H[s2]? = some (.int .u32 B)) (hR : H[rd]? = some (.int .u32 R0)) (l1 : s1 < 32) (l2 : s2 < 32) (lr : rd < 32) (i0 : -2147483648 ≤ I) (i1 : I ≤ 2147483647) (hz : ((rd : Int) != 0) = true)
    (CL : ∀ W, Below w.heap.size w W → Calls Tryd.prog 36 #[.slice p n c, .int .i64 13, .int .u32 pc] W fun e w' => e = .returned (.tuple #[.int .u32 X, .bool true]) ∧ w' = W)
    (CD : ∀ W, Calls Tryd.prog 12 #[.int .u32 X] W fun e w' => e = .returned (.tuple #[iv 4 rd s1 s2 I, .bool true]) ∧ Below W.heap.size W w')
    (CO : ∀ W, Calls Tryd.prog 38 #[.int .i64 I] W fun e w' => e = .returned (.int .u32 N) ∧ w' = W)
    (CN : ∀ W, Calls Tryd.prog 39 #[.int .u32 pc, .int .u32 4] W fun e w' => e = .returned (.int .u32 NX) ∧ w' = W)
    (CT : ∀ W, Calls Tryd.prog 39 #[.int .u32 A, .int .u32 N] W fun e w' => e = .returned (.int .u32 TH) ∧ w' = W)
    (hD : Hid (Did D (ccs pc (TH - TH % 2) 0 0 rd NX 0 0 0 false 0) ((H.setIfInBounds rd (.int .u32 NX)).setIfInBounds 32 (.int .u32 (TH - TH % 2))) p n c)) :
    Calls Tryd.prog 18 #[.agg H, .slice p n c] w fun e w' => e = .returned (.agg D) ∧ Below w.heap.size w w' := by
  have HH : Hid (H.size = 35) := hH
  have HO : Hid (Ones H) := hO
  clear hH hO
  go_enter Tryd.func18, Tryd.ntmps18
  go_wp2_with fail
  refine (CL _ (((Below.refl _ _).alloc (Nat.le_refl _) _).alloc (by simp) _)).mono ?_
  rintro e w' ⟨rfl, rfl⟩
  go_wp2_with fail
  refine (CD _).mono ?_
  rintro e w2 ⟨rfl, hk⟩
  have hs2 := hk.size
  simp at hs2
  have hrow : w2.heap[w.heap.size]? = some (.cells H 34 (0, 0)) := (hk.block _ (by simp; omega)).trans (heap_alloc2_old _ _ _)
  obtain ⟨Z, hZ, hres⟩ : ∃ Z : Array Value, Z.size = 47 ∧ w2.heap[w.heap.size + 1]? = some (.cells Z 42 (0, 0)) := ⟨_, rfl, (hk.block _ (by simp)).trans (heap_alloc2_new _ _ _)⟩
  have HZS : Hid (Z.size = 47) := hZ
  have hb0 : Below w.heap.size w w2 := (((Below.refl _ _).alloc (Nat.le_refl _) _).alloc (by simp) _).trans (hk.mono (by simp; omega))
  have k32 := (cell_of_row w2 w.heap.size 32 _ _ _ hrow).trans h32
  have k33 := (cell_of_row w2 w.heap.size 33 _ _ _ hrow).trans h33
  have kA := (cell_of_row w2 w.heap.size s1 _ _ _ hrow).trans hA
  have kB := (cell_of_row w2 w.heap.size s2 _ _ _ hrow).trans hB
  have kR := (cell_of_row w2 w.heap.size rd _ _ _ hrow).trans hR
  have kz : ∀ j, w2.frozen? ⟨w.heap.size, j, none⟩ = false := fun j => frozen_of_row _ _ j _ _ hrow
  have HR : Hid (w2.heap[w.heap.size]? = some (.cells H 34 (0, 0))) := hrow
  have HZ : Hid (w2.heap[w.heap.size + 1]? = some (.cells Z 42 (0, 0))) := hres
  have hs3 : w.heap.size < w2.heap.size := by omega
  have hs4 : w.heap.size + 1 < w2.heap.size := by omega
  clear hZ hk hrow hres hA hB hR h32 h33 h34 CL CD hs2
  go_wp2_with fail
  refine (CO _).mono ?_
  rintro e w' ⟨rfl, rfl⟩
  go_wp2_with fail
  refine (CN _).mono ?_
  rintro e w' ⟨rfl, rfl⟩
  go_wp2_with fail
  refine (CT _).mono ?_
  rintro e w' ⟨rfl, rfl⟩
  go_upto_region 69 with fail
  go_wp2_with (first | (refine wpList_load_row rfl 34 _ rfl _ rfl 34 _ (0, 0) _ (row_up (heap_setCell_same _ _ _ _ _ _ (heap_setCell_same _ _ _ _ _ _ HR.out)) _ _) Tryd.underlying34 rfl (info_hart hD.out.hH) ?_) | (refine wpList_build3 rfl 42 0 1 2 _ _ _ rfl _ _ _ rfl rfl rfl _ hD.out.built ?_) | (refine wpList_store_row rfl 42 _ _ rfl _ _ rfl rfl 42 Z (row_up ((heap_setCell_other _ _ _ _ (by simp)).trans ((heap_setCell_other _ _ _ _ (by simp)).trans HZ.out)) _ _) hD.out.info (HZS.out.trans hD.out.size.symm) hD.out.ones ?_))
  exact bodyPost_ret (v := .agg D) (results_cell_row Tryd.results18 _ _ _ 42 D (0, 0) _ rfl (setRow_heap _ _ _ _ _ _ (row_up ((heap_setCell_other _ _ _ _ (by simp)).trans ((heap_setCell_other _ _ _ _ (by simp)).trans HZ.out)) _ _)) Tryd.underlying42 rfl hD.out.info) rfl ⟨rfl, below_row ((((hb0.setCell (by simp) _).setCell (by simp) _).alloc (by simp; omega) _).alloc (by simp; omega) _) (by simp) _⟩

set_option maxRecDepth 20000 in
set_option maxHeartbeats 4000000 in
theorem qBrY (H : Array Value) (pc : Int) (p : Option Addr) (n c : Nat) (w : World) (X I N NX TH A B R0 : Int) (rd s1 s2 : Nat) (D : Array Value) (M PN : Int) (M0 : 5 ≤ M) (M1 : M ≤ 10)
    (hH : H.size = 35) (hO : Ones H) (h32 : H[32]? = some (.int .u32 pc)) (h33 : H[33]? = some (.int .i64 0)) (h34 : H[34]? = some (.int .i64 0))
    (hA : H[s1]? = some (.int .u32 A)) (hB : H[s2]? = some (.int .u32 B)) (hR : H[rd]? = some (.int .u32 R0)) (l1 : s1 < 32) (l2 : s2 < 32) (lr : rd < 32) (i0 : -2147483648 ≤ I) (i1 : I ≤ 2147483647)
    (CL : ∀ W, Below w.heap.size w W → Calls Tryd.prog 36 #[.slice p n c, .int .i64 13, .int .u32 pc] W fun e w' => e = .returned (.tuple #[.int .u32 X, .bool true]) ∧ w' = W)
    (CD : ∀ W, Calls Tryd.prog 12 #[.int .u32 X] W fun e w' => e = .returned (.tuple #[iv M rd s1 s2 I, .bool true]) ∧ Below W.heap.size W w')
    (CO : ∀ W, Calls Tryd.prog 38 #[.int .i64 I] W fun e w' => e = .returned (.int .u32 N) ∧ w' = W)
    (CN : ∀ W, Calls Tryd.prog 39 #[.int .u32 pc, .int .u32 4] W fun e w' => e = .returned (.int .u32 NX) ∧ w' = W)
    (CT : ∀ W, Calls Tryd.prog 39 #[.int .u32 A, .int .u32 N] W fun e w' => e = .returned (.int .u32 TH) ∧ w' = W)
    (CS : ∀ W, Calls Tryd.prog 39 #[.int .u32 pc, .int .u32 N] W fun e w' => e = .returned (.int .u32 PN) ∧ w' = W)
    (CH : ∀ W, Calls Tryd.prog 40 #[.int .i64 M, .int .u32 A, .int .u32 B] W fun e w' => e = .returned (.bool true) ∧ w' = W)
    (hD : Hid (Did D (ccs pc PN 0 0 0 0 0 0 0 false 0) (H.setIfInBounds 32 (.int .u32 PN)) p n c)) :
    Calls Tryd.prog 18 #[.agg H, .slice p n c] w fun e w' => e = .returned (.agg D) ∧ Below w.heap.size w w' := by
  have HH : Hid (H.size = 35) := hH
  have HO : Hid (Ones H) := hO
  have q1 : (M == 1) = false := beq_eq_false_iff_ne.2 (by omega)
  have q2 : (M == 2) = false := beq_eq_false_iff_ne.2 (by omega)
  have q3 : (M == 3) = false := beq_eq_false_iff_ne.2 (by omega)
  have q4 : (M == 4) = false := beq_eq_false_iff_ne.2 (by omega)
  have q47 : (M == 47) = false := beq_eq_false_iff_ne.2 (by omega)
  have q48 : (M == 48) = false := beq_eq_false_iff_ne.2 (by omega)
  have ge5 : decide (5 ≤ M) = true := decide_eq_true (by omega)
  have le10 : decide (M ≤ 10) = true := decide_eq_true (by omega)
  have ge11 : decide (11 ≤ M) = false := decide_eq_false (by omega)
  have le15 : decide (M ≤ 15) = true := decide_eq_true (by omega)
  have ge16 : decide (16 ≤ M) = false := decide_eq_false (by omega)
  have le18 : decide (M ≤ 18) = true := decide_eq_true (by omega)
  have ge19 : decide (19 ≤ M) = false := decide_eq_false (by omega)
  have le27 : decide (M ≤ 27) = true := decide_eq_true (by omega)
  have ge28 : decide (28 ≤ M) = false := decide_eq_false (by omega)
  have le45 : decide (M ≤ 45) = true := decide_eq_true (by omega)
  clear hH hO
  go_enter Tryd.func18, Tryd.ntmps18
  go_wp2_with fail
  refine (CL _ (((Below.refl _ _).alloc (Nat.le_refl _) _).alloc (by simp) _)).mono ?_
  rintro e w' ⟨rfl, rfl⟩
  go_wp2_with fail
  refine (CD _).mono ?_
  rintro e w2 ⟨rfl, hk⟩
  have hs2 := hk.size
  simp at hs2
  have hrow : w2.heap[w.heap.size]? = some (.cells H 34 (0, 0)) := (hk.block _ (by simp; omega)).trans (heap_alloc2_old _ _ _)
  obtain ⟨Z, hZ, hres⟩ : ∃ Z : Array Value, Z.size = 47 ∧ w2.heap[w.heap.size + 1]? = some (.cells Z 42 (0, 0)) := ⟨_, rfl, (hk.block _ (by simp)).trans (heap_alloc2_new _ _ _)⟩
  have HZS : Hid (Z.size = 47) := hZ
  have hb0 : Below w.heap.size w w2 := (((Below.refl _ _).alloc (Nat.le_refl _) _).alloc (by simp) _).trans (hk.mono (by simp; omega))
  have k32 := (cell_of_row w2 w.heap.size 32 _ _ _ hrow).trans h32
  have k33 := (cell_of_row w2 w.heap.size 33 _ _ _ hrow).trans h33
  have kA := (cell_of_row w2 w.heap.size s1 _ _ _ hrow).trans hA
  have kB := (cell_of_row w2 w.heap.size s2 _ _ _ hrow).trans hB
  have kR := (cell_of_row w2 w.heap.size rd _ _ _ hrow).trans hR
  have kz : ∀ j, w2.frozen? ⟨w.heap.size, j, none⟩ = false := fun j => frozen_of_row _ _ j _ _ hrow
  have HR : Hid (w2.heap[w.heap.size]? = some (.cells H 34 (0, 0))) := hrow
  have HZ : Hid (w2.heap[w.heap.size + 1]? = some (.cells Z 42 (0, 0))) := hres
  have hs3 : w.heap.size < w2.heap.size := by omega
  have hs4 : w.heap.size + 1 < w2.heap.size := by omega
  clear hZ hk hrow hres hA hB hR h32 h33 h34 CL CD hs2
  go_wp2_with fail
  refine (CO _).mono ?_
  rintro e w' ⟨rfl, rfl⟩
  go_wp2_with fail
  refine (CN _).mono ?_
  rintro e w' ⟨rfl, rfl⟩
  go_wp2_with fail
  refine (CT _).mono ?_
  rintro e w' ⟨rfl, rfl⟩
  go_wp2_with fail
  refine (CH _).mono ?_
  rintro e w' ⟨rfl, rfl⟩
  go_wp2_with fail
  refine (CS _).mono ?_
  rintro e w' ⟨rfl, rfl⟩
  go_upto_region 69 with fail
  go_wp2_with (first | (refine wpList_load_row rfl 34 _ rfl _ rfl 34 _ (0, 0) _ (row_up (heap_setCell_same _ _ _ _ _ _ HR.out) _ _) Tryd.underlying34 rfl (info_hart hD.out.hH) ?_) | (refine wpList_build3 rfl 42 0 1 2 _ _ _ rfl _ _ _ rfl rfl rfl _ hD.out.built ?_) | (refine wpList_store_row rfl 42 _ _ rfl _ _ rfl rfl 42 Z (row_up ((heap_setCell_other _ _ _ _ (by simp)).trans HZ.out) _ _) hD.out.info (HZS.out.trans hD.out.size.symm) hD.out.ones ?_))
  exact bodyPost_ret (v := .agg D) (results_cell_row Tryd.results18 _ _ _ 42 D (0, 0) _ rfl (setRow_heap _ _ _ _ _ _ (row_up ((heap_setCell_other _ _ _ _ (by simp)).trans HZ.out) _ _)) Tryd.underlying42 rfl hD.out.info) rfl ⟨rfl, below_row (((hb0.setCell (by simp) _).alloc (by simp; omega) _).alloc (by simp; omega) _) (by simp) _⟩

set_option maxRecDepth 20000 in
set_option maxHeartbeats 4000000 in
theorem qBrN (H : Array Value) (pc : Int) (p : Option Addr) (n c : Nat) (w : World) (X I N NX TH A B R0 : Int) (rd s1 s2 : Nat) (D : Array Value) (M : Int) (M0 : 5 ≤ M) (M1 : M ≤ 10)
    (hH : H.size = 35) (hO : Ones H) (h32 : H[32]? = some (.int .u32 pc)) (h33 : H[33]? = some (.int .i64 0)) (h34 : H[34]? = some (.int .i64 0))
    (hA : H[s1]? = some (.int .u32 A)) (hB : H[s2]? = some (.int .u32 B)) (hR : H[rd]? = some (.int .u32 R0)) (l1 : s1 < 32) (l2 : s2 < 32) (lr : rd < 32) (i0 : -2147483648 ≤ I) (i1 : I ≤ 2147483647)
    (CL : ∀ W, Below w.heap.size w W → Calls Tryd.prog 36 #[.slice p n c, .int .i64 13, .int .u32 pc] W fun e w' => e = .returned (.tuple #[.int .u32 X, .bool true]) ∧ w' = W)
    (CD : ∀ W, Calls Tryd.prog 12 #[.int .u32 X] W fun e w' => e = .returned (.tuple #[iv M rd s1 s2 I, .bool true]) ∧ Below W.heap.size W w')
    (CO : ∀ W, Calls Tryd.prog 38 #[.int .i64 I] W fun e w' => e = .returned (.int .u32 N) ∧ w' = W)
    (CN : ∀ W, Calls Tryd.prog 39 #[.int .u32 pc, .int .u32 4] W fun e w' => e = .returned (.int .u32 NX) ∧ w' = W)
    (CT : ∀ W, Calls Tryd.prog 39 #[.int .u32 A, .int .u32 N] W fun e w' => e = .returned (.int .u32 TH) ∧ w' = W)
    (CH : ∀ W, Calls Tryd.prog 40 #[.int .i64 M, .int .u32 A, .int .u32 B] W fun e w' => e = .returned (.bool false) ∧ w' = W)
    (hD : Hid (Did D (ccs pc NX 0 0 0 0 0 0 0 false 0) (H.setIfInBounds 32 (.int .u32 NX)) p n c)) :
    Calls Tryd.prog 18 #[.agg H, .slice p n c] w fun e w' => e = .returned (.agg D) ∧ Below w.heap.size w w' := by
  have HH : Hid (H.size = 35) := hH
  have HO : Hid (Ones H) := hO
  have q1 : (M == 1) = false := beq_eq_false_iff_ne.2 (by omega)
  have q2 : (M == 2) = false := beq_eq_false_iff_ne.2 (by omega)
  have q3 : (M == 3) = false := beq_eq_false_iff_ne.2 (by omega)
  have q4 : (M == 4) = false := beq_eq_false_iff_ne.2 (by omega)
  have q47 : (M == 47) = false := beq_eq_false_iff_ne.2 (by omega)
  have q48 : (M == 48) = false := beq_eq_false_iff_ne.2 (by omega)
  have ge5 : decide (5 ≤ M) = true := decide_eq_true (by omega)
  have le10 : decide (M ≤ 10) = true := decide_eq_true (by omega)
  have ge11 : decide (11 ≤ M) = false := decide_eq_false (by omega)
  have le15 : decide (M ≤ 15) = true := decide_eq_true (by omega)
  have ge16 : decide (16 ≤ M) = false := decide_eq_false (by omega)
  have le18 : decide (M ≤ 18) = true := decide_eq_true (by omega)
  have ge19 : decide (19 ≤ M) = false := decide_eq_false (by omega)
  have le27 : decide (M ≤ 27) = true := decide_eq_true (by omega)
  have ge28 : decide (28 ≤ M) = false := decide_eq_false (by omega)
  have le45 : decide (M ≤ 45) = true := decide_eq_true (by omega)
  clear hH hO
  go_enter Tryd.func18, Tryd.ntmps18
  go_wp2_with fail
  refine (CL _ (((Below.refl _ _).alloc (Nat.le_refl _) _).alloc (by simp) _)).mono ?_
  rintro e w' ⟨rfl, rfl⟩
  go_wp2_with fail
  refine (CD _).mono ?_
  rintro e w2 ⟨rfl, hk⟩
  have hs2 := hk.size
  simp at hs2
  have hrow : w2.heap[w.heap.size]? = some (.cells H 34 (0, 0)) := (hk.block _ (by simp; omega)).trans (heap_alloc2_old _ _ _)
  obtain ⟨Z, hZ, hres⟩ : ∃ Z : Array Value, Z.size = 47 ∧ w2.heap[w.heap.size + 1]? = some (.cells Z 42 (0, 0)) := ⟨_, rfl, (hk.block _ (by simp)).trans (heap_alloc2_new _ _ _)⟩
  have HZS : Hid (Z.size = 47) := hZ
  have hb0 : Below w.heap.size w w2 := (((Below.refl _ _).alloc (Nat.le_refl _) _).alloc (by simp) _).trans (hk.mono (by simp; omega))
  have k32 := (cell_of_row w2 w.heap.size 32 _ _ _ hrow).trans h32
  have k33 := (cell_of_row w2 w.heap.size 33 _ _ _ hrow).trans h33
  have kA := (cell_of_row w2 w.heap.size s1 _ _ _ hrow).trans hA
  have kB := (cell_of_row w2 w.heap.size s2 _ _ _ hrow).trans hB
  have kR := (cell_of_row w2 w.heap.size rd _ _ _ hrow).trans hR
  have kz : ∀ j, w2.frozen? ⟨w.heap.size, j, none⟩ = false := fun j => frozen_of_row _ _ j _ _ hrow
  have HR : Hid (w2.heap[w.heap.size]? = some (.cells H 34 (0, 0))) := hrow
  have HZ : Hid (w2.heap[w.heap.size + 1]? = some (.cells Z 42 (0, 0))) := hres
  have hs3 : w.heap.size < w2.heap.size := by omega
  have hs4 : w.heap.size + 1 < w2.heap.size := by omega
  clear hZ hk hrow hres hA hB hR h32 h33 h34 CL CD hs2
  go_wp2_with fail
  refine (CO _).mono ?_
  rintro e w' ⟨rfl, rfl⟩
  go_wp2_with fail
  refine (CN _).mono ?_
  rintro e w' ⟨rfl, rfl⟩
  go_wp2_with fail
  refine (CT _).mono ?_
  rintro e w' ⟨rfl, rfl⟩
  go_wp2_with fail
  refine (CH _).mono ?_
  rintro e w' ⟨rfl, rfl⟩
  go_upto_region 69 with fail
  go_wp2_with (first | (refine wpList_load_row rfl 34 _ rfl _ rfl 34 _ (0, 0) _ (row_up (heap_setCell_same _ _ _ _ _ _ HR.out) _ _) Tryd.underlying34 rfl (info_hart hD.out.hH) ?_) | (refine wpList_build3 rfl 42 0 1 2 _ _ _ rfl _ _ _ rfl rfl rfl _ hD.out.built ?_) | (refine wpList_store_row rfl 42 _ _ rfl _ _ rfl rfl 42 Z (row_up ((heap_setCell_other _ _ _ _ (by simp)).trans HZ.out) _ _) hD.out.info (HZS.out.trans hD.out.size.symm) hD.out.ones ?_))
  exact bodyPost_ret (v := .agg D) (results_cell_row Tryd.results18 _ _ _ 42 D (0, 0) _ rfl (setRow_heap _ _ _ _ _ _ (row_up ((heap_setCell_other _ _ _ _ (by simp)).trans HZ.out) _ _)) Tryd.underlying42 rfl hD.out.info) rfl ⟨rfl, below_row (((hb0.setCell (by simp) _).alloc (by simp; omega) _).alloc (by simp; omega) _) (by simp) _⟩

end Go.Proofs.YtpiohehijkpghaaDoor
