/- The document's Step, of a store: walked. -/
import Derived.Test.YtpiohehijkpghaaDoorHartB
import Derived.Test.YtpiohehijkpghaaDoorDecWr
import Derived.Deep.Cut
import Derived.Test.YtpiohehijkpghaaDoorMemS
import Derived.WalkSmall
namespace Go.Proofs.YtpiohehijkpghaaDoor
open Go.RowKit
open Hy
set_option linter.unusedVariables false

set_option maxRecDepth 20000 in
set_option maxHeartbeats 4000000 in
theorem qStore1 (H : Array Value) (pc : Int) (p : Option Addr) (n c : Nat) (w : World) (X I N NX TH A B R0 : Int) (rd s1 s2 : Nat) (f' : Nat → Int) (b0 : 0 ≤ B) (b1 : B ≤ 4294967295)
    (hH : H.size = 35) (hO : Ones H) (h32 : H[32]? = some (.int .u32 pc)) (h33 : H[33]? = some (.int .i64 0)) (h34 : H[34]? = some (.int .i64 0))
    (hA : H[s1]? = some (.int .u32 A)) (hB : H[s2]? = some (.int .u32 B)) (hR : H[rd]? = some (.int .u32 R0)) (l1 : s1 < 32) (l2 : s2 < 32) (lr : rd < 32) (i0 : -2147483648 ≤ I) (i1 : I ≤ 2147483647)
    (CL : ∀ W, Below w.heap.size w W → Calls Tryd.prog 36 #[.slice p n c, .int .i64 13, .int .u32 pc] W fun e w' => e = .returned (.tuple #[.int .u32 X, .bool true]) ∧ w' = W)
    (CD : ∀ W, Calls Tryd.prog 12 #[.int .u32 X] W fun e w' => e = .returned (.tuple #[iv 16 rd s1 s2 I, .bool true]) ∧ Below W.heap.size W w')
    (CO : ∀ W, Calls Tryd.prog 38 #[.int .i64 I] W fun e w' => e = .returned (.int .u32 N) ∧ w' = W)
    (CN : ∀ W, Calls Tryd.prog 39 #[.int .u32 pc, .int .u32 4] W fun e w' => e = .returned (.int .u32 NX) ∧ w' = W)
    (CT : ∀ W, Calls Tryd.prog 39 #[.int .u32 A, .int .u32 N] W fun e w' => e = .returned (.int .u32 TH) ∧ w' = W)
    (CM : ∀ W, Below w.heap.size w W → Calls Tryd.prog 41 #[.slice p n c, .int .i64 16, .int .u32 TH, .int .u32 B] W fun e w' => (∃ h cap, e = .returned (.tuple #[.slice (some ⟨h, 0, none⟩) n cap, .bool true]) ∧ n ≤ cap ∧ Fr w' W.heap.size h n f') ∧ Below W.heap.size W w')
    (CZ : ∀ W, Calls Tryd.prog 42 #[.int .i64 16, .bool true] W fun e w' => e = .returned (.int .i64 1) ∧ w' = W)
    (CQ : ∀ W, Calls Tryd.prog 43 #[.int .i64 8] W fun e w' => e = .returned (.int .i64 256) ∧ w' = W)  :
    Calls Tryd.prog 18 #[.agg H, .slice p n c] w fun e w' => (∃ D h cap, e = .returned (.agg D) ∧ Did D (ccs pc NX 0 0 0 0 TH 1 (B % 256) false 0) (H.setIfInBounds 32 (.int .u32 NX)) (some ⟨h, 0, none⟩) n cap ∧ n ≤ cap ∧ Fr w' w.heap.size h n f') ∧ Below w.heap.size w w' := by
  have HH : Hid (H.size = 35) := hH
  have HO : Hid (Ones H) := hO
  clear hH hO
  go_enter Tryd.func18, Tryd.ntmps18
  go_wp2_with fail
  refine (CL _ (((Below.refl _ _).alloc (Nat.le_refl _) _).alloc (by simp) _)).mono ?_
  rintro e w' ⟨rfl, rfl⟩
  go_wp2_with fail
  refine (CD _).mono ?_
  rintro e w2 ⟨rfl, hk⟩
  have hs2 := hk.size
  simp at hs2
  have hrow : w2.heap[w.heap.size]? = some (.cells H 34 (0, 0)) := (hk.block _ (by simp; omega)).trans (heap_alloc2_old _ _ _)
  obtain ⟨Z, hZ, hres⟩ : ∃ Z : Array Value, Z.size = 47 ∧ w2.heap[w.heap.size + 1]? = some (.cells Z 42 (0, 0)) := ⟨_, rfl, (hk.block _ (by simp)).trans (heap_alloc2_new _ _ _)⟩
  have HZS : Hid (Z.size = 47) := hZ
  have hb0 : Below w.heap.size w w2 := (((Below.refl _ _).alloc (Nat.le_refl _) _).alloc (by simp) _).trans (hk.mono (by simp; omega))
  have k32 := (cell_of_row w2 w.heap.size 32 _ _ _ hrow).trans h32
  have k33 := (cell_of_row w2 w.heap.size 33 _ _ _ hrow).trans h33
  have kA := (cell_of_row w2 w.heap.size s1 _ _ _ hrow).trans hA
  have kB := (cell_of_row w2 w.heap.size s2 _ _ _ hrow).trans hB
  have kR := (cell_of_row w2 w.heap.size rd _ _ _ hrow).trans hR
  have kz : ∀ j, w2.frozen? ⟨w.heap.size, j, none⟩ = false := fun j => frozen_of_row _ _ j _ _ hrow
  have HR : Hid (w2.heap[w.heap.size]? = some (.cells H 34 (0, 0))) := hrow
  have HZ : Hid (w2.heap[w.heap.size + 1]? = some (.cells Z 42 (0, 0))) := hres
  have hs3 : w.heap.size < w2.heap.size := by omega
  have hs4 : w.heap.size + 1 < w2.heap.size := by omega
  clear hZ hk hrow hres hA hB hR h34 CL CD hs2
  go_wp2_with fail
  refine (CO _).mono ?_
  rintro e w' ⟨rfl, rfl⟩
  go_wp2_with fail
  refine (CN _).mono ?_
  rintro e w' ⟨rfl, rfl⟩
  go_wp2_with fail
  refine (CT _).mono ?_
  rintro e w' ⟨rfl, rfl⟩
  go_wp2_with fail
  refine (CM _ ((hb0.alloc (by omega) _).alloc (by simp; omega) _)).mono ?_
  rintro e w3 ⟨⟨h, cap, rfl, hcap, hF⟩, hk3⟩
  have hs5 := hk3.size
  simp at hs5
  have ri : w3.heap[w2.heap.size]? = some (.cells #[.int .i64 16, .int .i64 rd, .int .i64 s1, .int .i64 s2, .int .i32 I] 24 (0, 0)) := (hk3.block _ (by simp; omega)).trans (heap_alloc2_old _ _ _)
  have rc : w3.heap[w2.heap.size + 1]? = some (.cells (ccs pc 0 0 0 0 0 0 0 0 false 0) 38 (0, 0)) := (hk3.block _ (by simp)).trans (heap_alloc2_new _ _ _)
  have HR3 : Hid (w3.heap[w.heap.size]? = some (.cells H 34 (0, 0))) := (hk3.block _ (by simp; omega)).trans (row_up HR.out _ _)
  have HZ3 : Hid (w3.heap[w.heap.size + 1]? = some (.cells Z 42 (0, 0))) := (hk3.block _ (by simp; omega)).trans (row_up HZ.out _ _)
  have hb3 : Below w.heap.size w w3 := ((hb0.alloc (by omega) _).alloc (by simp; omega) _).trans (hk3.mono (by simp; omega))
  have j0 := (cell_of_row w3 w2.heap.size 0 _ _ _ ri).trans rfl
  have j1 := (cell_of_row w3 w2.heap.size 1 _ _ _ ri).trans rfl
  have c0 := (cell_of_row w3 (w2.heap.size + 1) 0 _ _ _ rc).trans rfl
  have c1 := (cell_of_row w3 (w2.heap.size + 1) 1 _ _ _ rc).trans rfl
  have c2 := (cell_of_row w3 (w2.heap.size + 1) 2 _ _ _ rc).trans rfl
  have c3 := (cell_of_row w3 (w2.heap.size + 1) 3 _ _ _ rc).trans rfl
  have c4 := (cell_of_row w3 (w2.heap.size + 1) 4 _ _ _ rc).trans rfl
  have c5 := (cell_of_row w3 (w2.heap.size + 1) 5 _ _ _ rc).trans rfl
  have c6 := (cell_of_row w3 (w2.heap.size + 1) 6 _ _ _ rc).trans rfl
  have c7 := (cell_of_row w3 (w2.heap.size + 1) 7 _ _ _ rc).trans rfl
  have c8 := (cell_of_row w3 (w2.heap.size + 1) 8 _ _ _ rc).trans rfl
  have c9 := (cell_of_row w3 (w2.heap.size + 1) 9 _ _ _ rc).trans rfl
  have c10 := (cell_of_row w3 (w2.heap.size + 1) 10 _ _ _ rc).trans rfl
  have cz : ∀ j, w3.frozen? ⟨w2.heap.size + 1, j, none⟩ = false := fun j => frozen_of_row _ _ j _ _ rc
  have m32 := (cell_of_row w3 w.heap.size 32 _ _ _ HR3.out).trans h32
  have m33 := (cell_of_row w3 w.heap.size 33 _ _ _ HR3.out).trans h33
  have mz : ∀ j, w3.frozen? ⟨w.heap.size, j, none⟩ = false := fun j => frozen_of_row _ _ j _ _ HR3.out
  have RC : Hid (w3.heap[w2.heap.size + 1]? = some (.cells (ccs pc 0 0 0 0 0 0 0 0 false 0) 38 (0, 0))) := rc
  have HF : Hid (Fr w3 ((w2.alloc _).alloc _).heap.size h n f') := hF
  have hs6 : w.heap.size < w3.heap.size := by omega
  have hs7 : w2.heap.size < w3.heap.size := by omega
  have hs8 : w2.heap.size + 1 < w3.heap.size := by omega
  obtain ⟨D, hD⟩ : ∃ D, Hid (Did D (ccs pc NX 0 0 0 0 TH 1 (B % 256) false 0) (H.setIfInBounds 32 (.int .u32 NX)) (some ⟨h, 0, none⟩) n cap) := ⟨_, ⟨rfl, rfl, by simp [HH.out], ones_ccs _ _ _ _ _ _ _ _ _ _ _, HO.out.set _ _ (by simp [Value.oneCell'])⟩⟩
  clear hF ri rc hk3 k32 k33 kA kB kR kz CM h32 h33
  go_wp2_with fail
  refine (CZ _).mono ?_
  rintro e w' ⟨rfl, hw⟩
  rw [hw]
  clear hw
  go_wp2_with fail
  refine (CQ _).mono ?_
  rintro e w' ⟨rfl, hw⟩
  rw [hw]
  clear hw
  have hh := HF.out.base
  simp at hh
  go_upto_region 69 with fail
  obtain ⟨w5, hw5⟩ : ∃ w5 : World, w5 = ((((((w3.setCell ⟨w2.heap.size + 1, 6, none⟩ (.int .u32 TH)).setCell ⟨w2.heap.size + 1, 7, none⟩ (.int .i64 1)).setCell ⟨w2.heap.size + 1, 8, none⟩ (.int .u32 B)).setCell ⟨w2.heap.size + 1, 8, none⟩ (.int .u32 (B % 256))).setCell ⟨w2.heap.size + 1, 1, none⟩ (.int .u32 NX)).setCell ⟨w2.heap.size + 1, 2, none⟩ (.int .i64 0)).setCell ⟨w.heap.size, 32, none⟩ (.int .u32 NX) := ⟨_, rfl⟩
  rw [← hw5]
  have r34 : Hid (w5.heap[w.heap.size]? = some (.cells (H.setIfInBounds 32 (.int .u32 NX)) 34 (0, 0))) := by rw [hw5]; exact heap_setCell_same _ _ _ _ _ _ ((heap_setCell_other _ _ _ _ (by simp; omega)).trans ((heap_setCell_other _ _ _ _ (by simp; omega)).trans ((heap_setCell_other _ _ _ _ (by simp; omega)).trans ((heap_setCell_other _ _ _ _ (by simp; omega)).trans ((heap_setCell_other _ _ _ _ (by simp; omega)).trans ((heap_setCell_other _ _ _ _ (by simp; omega)).trans (HR3.out)))))))
  have r38 : Hid (w5.heap[w2.heap.size + 1]? = some (.cells (ccs pc NX 0 0 0 0 TH 1 (B % 256) false 0) 38 (0, 0))) := by rw [hw5]; exact (heap_setCell_other _ _ _ _ (by simp; omega)).trans (heap_setCell_same _ _ _ _ _ _ (heap_setCell_same _ _ _ _ _ _ (heap_setCell_same _ _ _ _ _ _ (heap_setCell_same _ _ _ _ _ _ (heap_setCell_same _ _ _ _ _ _ (heap_setCell_same _ _ _ _ _ _ (RC.out)))))))
  have r42 : Hid (w5.heap[w.heap.size + 1]? = some (.cells Z 42 (0, 0))) := by rw [hw5]; exact (heap_setCell_other _ _ _ _ (by simp)).trans ((heap_setCell_other _ _ _ _ (by simp; omega)).trans ((heap_setCell_other _ _ _ _ (by simp; omega)).trans ((heap_setCell_other _ _ _ _ (by simp; omega)).trans ((heap_setCell_other _ _ _ _ (by simp; omega)).trans ((heap_setCell_other _ _ _ _ (by simp; omega)).trans ((heap_setCell_other _ _ _ _ (by simp; omega)).trans (HZ3.out)))))))
  have b5 : Below w.heap.size w w5 := by rw [hw5]; exact ((((((hb3.setCell (by simp; omega) _).setCell (by simp; omega) _).setCell (by simp; omega) _).setCell (by simp; omega) _).setCell (by simp; omega) _).setCell (by simp; omega) _).setCell (by simp) _
  have f5 : Hid (Fr w5 w.heap.size h n f') := by rw [hw5]; exact HF.out.moved (by omega) ((heap_setCell_other _ _ _ _ (by simp; omega)).trans ((heap_setCell_other _ _ _ _ (by simp; omega)).trans ((heap_setCell_other _ _ _ _ (by simp; omega)).trans ((heap_setCell_other _ _ _ _ (by simp; omega)).trans ((heap_setCell_other _ _ _ _ (by simp; omega)).trans ((heap_setCell_other _ _ _ _ (by simp; omega)).trans ((heap_setCell_other _ _ _ _ (by simp; omega)).trans (rfl)))))))) (by simp)
  clear hw5 hb3 hb0 HF RC HR3 HZ3 HR HZ c0 c1 c2 c3 c4 c5 c6 c7 c8 c9 c10 m32 m33 mz cz j0 j1
  go_wp2_with (first | (refine wpList_load_row rfl 34 _ rfl _ rfl 34 _ (0, 0) _ (r34.out) Tryd.underlying34 rfl (info_hart hD.out.hH) ?_) | (refine wpList_load_row rfl 38 _ rfl _ rfl 38 _ (0, 0) _ r38.out Tryd.underlying38 rfl size_commit ?_) | (refine wpList_build3 rfl 42 0 1 2 _ _ _ rfl _ _ _ rfl rfl rfl _ hD.out.built ?_) | (refine wpList_store_row rfl 42 _ _ rfl _ _ rfl rfl 42 Z (r42.out) hD.out.info (HZS.out.trans hD.out.size.symm) hD.out.ones ?_))
  exact bodyPost_ret (v := .agg D) (results_cell_row Tryd.results18 _ _ _ 42 D (0, 0) _ rfl (setRow_heap _ _ _ _ _ _ r42.out) Tryd.underlying42 rfl hD.out.info) rfl ⟨⟨D, h, cap, rfl, hD.out, hcap, f5.out.moved (by omega) (setRow_other _ _ _ _ (by omega)) (by simp)⟩, below_row b5 (by simp) _⟩

set_option maxRecDepth 20000 in
set_option maxHeartbeats 4000000 in
theorem qStore2 (H : Array Value) (pc : Int) (p : Option Addr) (n c : Nat) (w : World) (X I N NX TH A B R0 : Int) (rd s1 s2 : Nat) (f' : Nat → Int) (b0 : 0 ≤ B) (b1 : B ≤ 4294967295)
    (hH : H.size = 35) (hO : Ones H) (h32 : H[32]? = some (.int .u32 pc)) (h33 : H[33]? = some (.int .i64 0)) (h34 : H[34]? = some (.int .i64 0))
    (hA : H[s1]? = some (.int .u32 A)) (hB : H[s2]? = some (.int .u32 B)) (hR : H[rd]? = some (.int .u32 R0)) (l1 : s1 < 32) (l2 : s2 < 32) (lr : rd < 32) (i0 : -2147483648 ≤ I) (i1 : I ≤ 2147483647)
    (CL : ∀ W, Below w.heap.size w W → Calls Tryd.prog 36 #[.slice p n c, .int .i64 13, .int .u32 pc] W fun e w' => e = .returned (.tuple #[.int .u32 X, .bool true]) ∧ w' = W)
    (CD : ∀ W, Calls Tryd.prog 12 #[.int .u32 X] W fun e w' => e = .returned (.tuple #[iv 17 rd s1 s2 I, .bool true]) ∧ Below W.heap.size W w')
    (CO : ∀ W, Calls Tryd.prog 38 #[.int .i64 I] W fun e w' => e = .returned (.int .u32 N) ∧ w' = W)
    (CN : ∀ W, Calls Tryd.prog 39 #[.int .u32 pc, .int .u32 4] W fun e w' => e = .returned (.int .u32 NX) ∧ w' = W)
    (CT : ∀ W, Calls Tryd.prog 39 #[.int .u32 A, .int .u32 N] W fun e w' => e = .returned (.int .u32 TH) ∧ w' = W)
    (CM : ∀ W, Below w.heap.size w W → Calls Tryd.prog 41 #[.slice p n c, .int .i64 17, .int .u32 TH, .int .u32 B] W fun e w' => (∃ h cap, e = .returned (.tuple #[.slice (some ⟨h, 0, none⟩) n cap, .bool true]) ∧ n ≤ cap ∧ Fr w' W.heap.size h n f') ∧ Below W.heap.size W w')
    (CZ : ∀ W, Calls Tryd.prog 42 #[.int .i64 17, .bool true] W fun e w' => e = .returned (.int .i64 2) ∧ w' = W)
    (CQ : ∀ W, Calls Tryd.prog 43 #[.int .i64 16] W fun e w' => e = .returned (.int .i64 65536) ∧ w' = W)  :
    Calls Tryd.prog 18 #[.agg H, .slice p n c] w fun e w' => (∃ D h cap, e = .returned (.agg D) ∧ Did D (ccs pc NX 0 0 0 0 TH 2 (B % 65536) false 0) (H.setIfInBounds 32 (.int .u32 NX)) (some ⟨h, 0, none⟩) n cap ∧ n ≤ cap ∧ Fr w' w.heap.size h n f') ∧ Below w.heap.size w w' := by
  have HH : Hid (H.size = 35) := hH
  have HO : Hid (Ones H) := hO
  clear hH hO
  go_enter Tryd.func18, Tryd.ntmps18
  go_wp2_with fail
  refine (CL _ (((Below.refl _ _).alloc (Nat.le_refl _) _).alloc (by simp) _)).mono ?_
  rintro e w' ⟨rfl, rfl⟩
  go_wp2_with fail
  refine (CD _).mono ?_
  rintro e w2 ⟨rfl, hk⟩
  have hs2 := hk.size
  simp at hs2
  have hrow : w2.heap[w.heap.size]? = some (.cells H 34 (0, 0)) := (hk.block _ (by simp; omega)).trans (heap_alloc2_old _ _ _)
  obtain ⟨Z, hZ, hres⟩ : ∃ Z : Array Value, Z.size = 47 ∧ w2.heap[w.heap.size + 1]? = some (.cells Z 42 (0, 0)) := ⟨_, rfl, (hk.block _ (by simp)).trans (heap_alloc2_new _ _ _)⟩
  have HZS : Hid (Z.size = 47) := hZ
  have hb0 : Below w.heap.size w w2 := (((Below.refl _ _).alloc (Nat.le_refl _) _).alloc (by simp) _).trans (hk.mono (by simp; omega))
  have k32 := (cell_of_row w2 w.heap.size 32 _ _ _ hrow).trans h32
  have k33 := (cell_of_row w2 w.heap.size 33 _ _ _ hrow).trans h33
  have kA := (cell_of_row w2 w.heap.size s1 _ _ _ hrow).trans hA
  have kB := (cell_of_row w2 w.heap.size s2 _ _ _ hrow).trans hB
  have kR := (cell_of_row w2 w.heap.size rd _ _ _ hrow).trans hR
  have kz : ∀ j, w2.frozen? ⟨w.heap.size, j, none⟩ = false := fun j => frozen_of_row _ _ j _ _ hrow
  have HR : Hid (w2.heap[w.heap.size]? = some (.cells H 34 (0, 0))) := hrow
  have HZ : Hid (w2.heap[w.heap.size + 1]? = some (.cells Z 42 (0, 0))) := hres
  have hs3 : w.heap.size < w2.heap.size := by omega
  have hs4 : w.heap.size + 1 < w2.heap.size := by omega
  clear hZ hk hrow hres hA hB hR h34 CL CD hs2
  go_wp2_with fail
  refine (CO _).mono ?_
  rintro e w' ⟨rfl, rfl⟩
  go_wp2_with fail
  refine (CN _).mono ?_
  rintro e w' ⟨rfl, rfl⟩
  go_wp2_with fail
  refine (CT _).mono ?_
  rintro e w' ⟨rfl, rfl⟩
  go_wp2_with fail
  refine (CM _ ((hb0.alloc (by omega) _).alloc (by simp; omega) _)).mono ?_
  rintro e w3 ⟨⟨h, cap, rfl, hcap, hF⟩, hk3⟩
  have hs5 := hk3.size
  simp at hs5
  have ri : w3.heap[w2.heap.size]? = some (.cells #[.int .i64 17, .int .i64 rd, .int .i64 s1, .int .i64 s2, .int .i32 I] 24 (0, 0)) := (hk3.block _ (by simp; omega)).trans (heap_alloc2_old _ _ _)
  have rc : w3.heap[w2.heap.size + 1]? = some (.cells (ccs pc 0 0 0 0 0 0 0 0 false 0) 38 (0, 0)) := (hk3.block _ (by simp)).trans (heap_alloc2_new _ _ _)
  have HR3 : Hid (w3.heap[w.heap.size]? = some (.cells H 34 (0, 0))) := (hk3.block _ (by simp; omega)).trans (row_up HR.out _ _)
  have HZ3 : Hid (w3.heap[w.heap.size + 1]? = some (.cells Z 42 (0, 0))) := (hk3.block _ (by simp; omega)).trans (row_up HZ.out _ _)
  have hb3 : Below w.heap.size w w3 := ((hb0.alloc (by omega) _).alloc (by simp; omega) _).trans (hk3.mono (by simp; omega))
  have j0 := (cell_of_row w3 w2.heap.size 0 _ _ _ ri).trans rfl
  have j1 := (cell_of_row w3 w2.heap.size 1 _ _ _ ri).trans rfl
  have c0 := (cell_of_row w3 (w2.heap.size + 1) 0 _ _ _ rc).trans rfl
  have c1 := (cell_of_row w3 (w2.heap.size + 1) 1 _ _ _ rc).trans rfl
  have c2 := (cell_of_row w3 (w2.heap.size + 1) 2 _ _ _ rc).trans rfl
  have c3 := (cell_of_row w3 (w2.heap.size + 1) 3 _ _ _ rc).trans rfl
  have c4 := (cell_of_row w3 (w2.heap.size + 1) 4 _ _ _ rc).trans rfl
  have c5 := (cell_of_row w3 (w2.heap.size + 1) 5 _ _ _ rc).trans rfl
  have c6 := (cell_of_row w3 (w2.heap.size + 1) 6 _ _ _ rc).trans rfl
  have c7 := (cell_of_row w3 (w2.heap.size + 1) 7 _ _ _ rc).trans rfl
  have c8 := (cell_of_row w3 (w2.heap.size + 1) 8 _ _ _ rc).trans rfl
  have c9 := (cell_of_row w3 (w2.heap.size + 1) 9 _ _ _ rc).trans rfl
  have c10 := (cell_of_row w3 (w2.heap.size + 1) 10 _ _ _ rc).trans rfl
  have cz : ∀ j, w3.frozen? ⟨w2.heap.size + 1, j, none⟩ = false := fun j => frozen_of_row _ _ j _ _ rc
  have m32 := (cell_of_row w3 w.heap.size 32 _ _ _ HR3.out).trans h32
  have m33 := (cell_of_row w3 w.heap.size 33 _ _ _ HR3.out).trans h33
  have mz : ∀ j, w3.frozen? ⟨w.heap.size, j, none⟩ = false := fun j => frozen_of_row _ _ j _ _ HR3.out
  have RC : Hid (w3.heap[w2.heap.size + 1]? = some (.cells (ccs pc 0 0 0 0 0 0 0 0 false 0) 38 (0, 0))) := rc
  have HF : Hid (Fr w3 ((w2.alloc _).alloc _).heap.size h n f') := hF
  have hs6 : w.heap.size < w3.heap.size := by omega
  have hs7 : w2.heap.size < w3.heap.size := by omega
  have hs8 : w2.heap.size + 1 < w3.heap.size := by omega
  obtain ⟨D, hD⟩ : ∃ D, Hid (Did D (ccs pc NX 0 0 0 0 TH 2 (B % 65536) false 0) (H.setIfInBounds 32 (.int .u32 NX)) (some ⟨h, 0, none⟩) n cap) := ⟨_, ⟨rfl, rfl, by simp [HH.out], ones_ccs _ _ _ _ _ _ _ _ _ _ _, HO.out.set _ _ (by simp [Value.oneCell'])⟩⟩
  clear hF ri rc hk3 k32 k33 kA kB kR kz CM h32 h33
  go_wp2_with fail
  refine (CZ _).mono ?_
  rintro e w' ⟨rfl, hw⟩
  rw [hw]
  clear hw
  go_wp2_with fail
  refine (CQ _).mono ?_
  rintro e w' ⟨rfl, hw⟩
  rw [hw]
  clear hw
  have hh := HF.out.base
  simp at hh
  go_upto_region 69 with fail
  obtain ⟨w5, hw5⟩ : ∃ w5 : World, w5 = ((((((w3.setCell ⟨w2.heap.size + 1, 6, none⟩ (.int .u32 TH)).setCell ⟨w2.heap.size + 1, 7, none⟩ (.int .i64 2)).setCell ⟨w2.heap.size + 1, 8, none⟩ (.int .u32 B)).setCell ⟨w2.heap.size + 1, 8, none⟩ (.int .u32 (B % 65536))).setCell ⟨w2.heap.size + 1, 1, none⟩ (.int .u32 NX)).setCell ⟨w2.heap.size + 1, 2, none⟩ (.int .i64 0)).setCell ⟨w.heap.size, 32, none⟩ (.int .u32 NX) := ⟨_, rfl⟩
  rw [← hw5]
  have r34 : Hid (w5.heap[w.heap.size]? = some (.cells (H.setIfInBounds 32 (.int .u32 NX)) 34 (0, 0))) := by rw [hw5]; exact heap_setCell_same _ _ _ _ _ _ ((heap_setCell_other _ _ _ _ (by simp; omega)).trans ((heap_setCell_other _ _ _ _ (by simp; omega)).trans ((heap_setCell_other _ _ _ _ (by simp; omega)).trans ((heap_setCell_other _ _ _ _ (by simp; omega)).trans ((heap_setCell_other _ _ _ _ (by simp; omega)).trans ((heap_setCell_other _ _ _ _ (by simp; omega)).trans (HR3.out)))))))
  have r38 : Hid (w5.heap[w2.heap.size + 1]? = some (.cells (ccs pc NX 0 0 0 0 TH 2 (B % 65536) false 0) 38 (0, 0))) := by rw [hw5]; exact (heap_setCell_other _ _ _ _ (by simp; omega)).trans (heap_setCell_same _ _ _ _ _ _ (heap_setCell_same _ _ _ _ _ _ (heap_setCell_same _ _ _ _ _ _ (heap_setCell_same _ _ _ _ _ _ (heap_setCell_same _ _ _ _ _ _ (heap_setCell_same _ _ _ _ _ _ (RC.out)))))))
  have r42 : Hid (w5.heap[w.heap.size + 1]? = some (.cells Z 42 (0, 0))) := by rw [hw5]; exact (heap_setCell_other _ _ _ _ (by simp)).trans ((heap_setCell_other _ _ _ _ (by simp; omega)).trans ((heap_setCell_other _ _ _ _ (by simp; omega)).trans ((heap_setCell_other _ _ _ _ (by simp; omega)).trans ((heap_setCell_other _ _ _ _ (by simp; omega)).trans ((heap_setCell_other _ _ _ _ (by simp; omega)).trans ((heap_setCell_other _ _ _ _ (by simp; omega)).trans (HZ3.out)))))))
  have b5 : Below w.heap.size w w5 := by rw [hw5]; exact ((((((hb3.setCell (by simp; omega) _).setCell (by simp; omega) _).setCell (by simp; omega) _).setCell (by simp; omega) _).setCell (by simp; omega) _).setCell (by simp; omega) _).setCell (by simp) _
  have f5 : Hid (Fr w5 w.heap.size h n f') := by rw [hw5]; exact HF.out.moved (by omega) ((heap_setCell_other _ _ _ _ (by simp; omega)).trans ((heap_setCell_other _ _ _ _ (by simp; omega)).trans ((heap_setCell_other _ _ _ _ (by simp; omega)).trans ((heap_setCell_other _ _ _ _ (by simp; omega)).trans ((heap_setCell_other _ _ _ _ (by simp; omega)).trans ((heap_setCell_other _ _ _ _ (by simp; omega)).trans ((heap_setCell_other _ _ _ _ (by simp; omega)).trans (rfl)))))))) (by simp)
  clear hw5 hb3 hb0 HF RC HR3 HZ3 HR HZ c0 c1 c2 c3 c4 c5 c6 c7 c8 c9 c10 m32 m33 mz cz j0 j1
  go_wp2_with (first | (refine wpList_load_row rfl 34 _ rfl _ rfl 34 _ (0, 0) _ (r34.out) Tryd.underlying34 rfl (info_hart hD.out.hH) ?_) | (refine wpList_load_row rfl 38 _ rfl _ rfl 38 _ (0, 0) _ r38.out Tryd.underlying38 rfl size_commit ?_) | (refine wpList_build3 rfl 42 0 1 2 _ _ _ rfl _ _ _ rfl rfl rfl _ hD.out.built ?_) | (refine wpList_store_row rfl 42 _ _ rfl _ _ rfl rfl 42 Z (r42.out) hD.out.info (HZS.out.trans hD.out.size.symm) hD.out.ones ?_))
  exact bodyPost_ret (v := .agg D) (results_cell_row Tryd.results18 _ _ _ 42 D (0, 0) _ rfl (setRow_heap _ _ _ _ _ _ r42.out) Tryd.underlying42 rfl hD.out.info) rfl ⟨⟨D, h, cap, rfl, hD.out, hcap, f5.out.moved (by omega) (setRow_other _ _ _ _ (by omega)) (by simp)⟩, below_row b5 (by simp) _⟩

set_option maxRecDepth 20000 in
set_option maxHeartbeats 4000000 in
theorem qStore4 (H : Array Value) (pc : Int) (p : Option Addr) (n c : Nat) (w : World) (X I N NX TH A B R0 : Int) (rd s1 s2 : Nat) (f' : Nat → Int) (b0 : 0 ≤ B) (b1 : B ≤ 4294967295)
    (hH : H.size = 35) (hO : Ones H) (h32 : H[32]? = some (.int .u32 pc)) (h33 : H[33]? = some (.int .i64 0)) (h34 : H[34]? = some (.int .i64 0))
    (hA : H[s1]? = some (.int .u32 A)) (hB : H[s2]? = some (.int .u32 B)) (hR : H[rd]? = some (.int .u32 R0)) (l1 : s1 < 32) (l2 : s2 < 32) (lr : rd < 32) (i0 : -2147483648 ≤ I) (i1 : I ≤ 2147483647)
    (CL : ∀ W, Below w.heap.size w W → Calls Tryd.prog 36 #[.slice p n c, .int .i64 13, .int .u32 pc] W fun e w' => e = .returned (.tuple #[.int .u32 X, .bool true]) ∧ w' = W)
    (CD : ∀ W, Calls Tryd.prog 12 #[.int .u32 X] W fun e w' => e = .returned (.tuple #[iv 18 rd s1 s2 I, .bool true]) ∧ Below W.heap.size W w')
    (CO : ∀ W, Calls Tryd.prog 38 #[.int .i64 I] W fun e w' => e = .returned (.int .u32 N) ∧ w' = W)
    (CN : ∀ W, Calls Tryd.prog 39 #[.int .u32 pc, .int .u32 4] W fun e w' => e = .returned (.int .u32 NX) ∧ w' = W)
    (CT : ∀ W, Calls Tryd.prog 39 #[.int .u32 A, .int .u32 N] W fun e w' => e = .returned (.int .u32 TH) ∧ w' = W)
    (CM : ∀ W, Below w.heap.size w W → Calls Tryd.prog 41 #[.slice p n c, .int .i64 18, .int .u32 TH, .int .u32 B] W fun e w' => (∃ h cap, e = .returned (.tuple #[.slice (some ⟨h, 0, none⟩) n cap, .bool true]) ∧ n ≤ cap ∧ Fr w' W.heap.size h n f') ∧ Below W.heap.size W w')
    (CZ : ∀ W, Calls Tryd.prog 42 #[.int .i64 18, .bool true] W fun e w' => e = .returned (.int .i64 4) ∧ w' = W)  :
    Calls Tryd.prog 18 #[.agg H, .slice p n c] w fun e w' => (∃ D h cap, e = .returned (.agg D) ∧ Did D (ccs pc NX 0 0 0 0 TH 4 B false 0) (H.setIfInBounds 32 (.int .u32 NX)) (some ⟨h, 0, none⟩) n cap ∧ n ≤ cap ∧ Fr w' w.heap.size h n f') ∧ Below w.heap.size w w' := by
  have HH : Hid (H.size = 35) := hH
  have HO : Hid (Ones H) := hO
  clear hH hO
  go_enter Tryd.func18, Tryd.ntmps18
  go_wp2_with fail
  refine (CL _ (((Below.refl _ _).alloc (Nat.le_refl _) _).alloc (by simp) _)).mono ?_
  rintro e w' ⟨rfl, rfl⟩
  go_wp2_with fail
  refine (CD _).mono ?_
  rintro e w2 ⟨rfl, hk⟩
  have hs2 := hk.size
  simp at hs2
  have hrow : w2.heap[w.heap.size]? = some (.cells H 34 (0, 0)) := (hk.block _ (by simp; omega)).trans (heap_alloc2_old _ _ _)
  obtain ⟨Z, hZ, hres⟩ : ∃ Z : Array Value, Z.size = 47 ∧ w2.heap[w.heap.size + 1]? = some (.cells Z 42 (0, 0)) := ⟨_, rfl, (hk.block _ (by simp)).trans (heap_alloc2_new _ _ _)⟩
  have HZS : Hid (Z.size = 47) := hZ
  have hb0 : Below w.heap.size w w2 := (((Below.refl _ _).alloc (Nat.le_refl _) _).alloc (by simp) _).trans (hk.mono (by simp; omega))
  have k32 := (cell_of_row w2 w.heap.size 32 _ _ _ hrow).trans h32
  have k33 := (cell_of_row w2 w.heap.size 33 _ _ _ hrow).trans h33
  have kA := (cell_of_row w2 w.heap.size s1 _ _ _ hrow).trans hA
  have kB := (cell_of_row w2 w.heap.size s2 _ _ _ hrow).trans hB
  have kR := (cell_of_row w2 w.heap.size rd _ _ _ hrow).trans hR
  have kz : ∀ j, w2.frozen? ⟨w.heap.size, j, none⟩ = false := fun j => frozen_of_row _ _ j _ _ hrow
  have HR : Hid (w2.heap[w.heap.size]? = some (.cells H 34 (0, 0))) := hrow
  have HZ : Hid (w2.heap[w.heap.size + 1]? = some (.cells Z 42 (0, 0))) := hres
  have hs3 : w.heap.size < w2.heap.size := by omega
  have hs4 : w.heap.size + 1 < w2.heap.size := by omega
  clear hZ hk hrow hres hA hB hR h34 CL CD hs2
  go_wp2_with fail
  refine (CO _).mono ?_
  rintro e w' ⟨rfl, rfl⟩
  go_wp2_with fail
  refine (CN _).mono ?_
  rintro e w' ⟨rfl, rfl⟩
  go_wp2_with fail
  refine (CT _).mono ?_
  rintro e w' ⟨rfl, rfl⟩
  go_wp2_with fail
  refine (CM _ ((hb0.alloc (by omega) _).alloc (by simp; omega) _)).mono ?_
  rintro e w3 ⟨⟨h, cap, rfl, hcap, hF⟩, hk3⟩
  have hs5 := hk3.size
  simp at hs5
  have ri : w3.heap[w2.heap.size]? = some (.cells #[.int .i64 18, .int .i64 rd, .int .i64 s1, .int .i64 s2, .int .i32 I] 24 (0, 0)) := (hk3.block _ (by simp; omega)).trans (heap_alloc2_old _ _ _)
  have rc : w3.heap[w2.heap.size + 1]? = some (.cells (ccs pc 0 0 0 0 0 0 0 0 false 0) 38 (0, 0)) := (hk3.block _ (by simp)).trans (heap_alloc2_new _ _ _)
  have HR3 : Hid (w3.heap[w.heap.size]? = some (.cells H 34 (0, 0))) := (hk3.block _ (by simp; omega)).trans (row_up HR.out _ _)
  have HZ3 : Hid (w3.heap[w.heap.size + 1]? = some (.cells Z 42 (0, 0))) := (hk3.block _ (by simp; omega)).trans (row_up HZ.out _ _)
  have hb3 : Below w.heap.size w w3 := ((hb0.alloc (by omega) _).alloc (by simp; omega) _).trans (hk3.mono (by simp; omega))
  have j0 := (cell_of_row w3 w2.heap.size 0 _ _ _ ri).trans rfl
  have j1 := (cell_of_row w3 w2.heap.size 1 _ _ _ ri).trans rfl
  have c0 := (cell_of_row w3 (w2.heap.size + 1) 0 _ _ _ rc).trans rfl
  have c1 := (cell_of_row w3 (w2.heap.size + 1) 1 _ _ _ rc).trans rfl
  have c2 := (cell_of_row w3 (w2.heap.size + 1) 2 _ _ _ rc).trans rfl
  have c3 := (cell_of_row w3 (w2.heap.size + 1) 3 _ _ _ rc).trans rfl
  have c4 := (cell_of_row w3 (w2.heap.size + 1) 4 _ _ _ rc).trans rfl
  have c5 := (cell_of_row w3 (w2.heap.size + 1) 5 _ _ _ rc).trans rfl
  have c6 := (cell_of_row w3 (w2.heap.size + 1) 6 _ _ _ rc).trans rfl
  have c7 := (cell_of_row w3 (w2.heap.size + 1) 7 _ _ _ rc).trans rfl
  have c8 := (cell_of_row w3 (w2.heap.size + 1) 8 _ _ _ rc).trans rfl
  have c9 := (cell_of_row w3 (w2.heap.size + 1) 9 _ _ _ rc).trans rfl
  have c10 := (cell_of_row w3 (w2.heap.size + 1) 10 _ _ _ rc).trans rfl
  have cz : ∀ j, w3.frozen? ⟨w2.heap.size + 1, j, none⟩ = false := fun j => frozen_of_row _ _ j _ _ rc
  have m32 := (cell_of_row w3 w.heap.size 32 _ _ _ HR3.out).trans h32
  have m33 := (cell_of_row w3 w.heap.size 33 _ _ _ HR3.out).trans h33
  have mz : ∀ j, w3.frozen? ⟨w.heap.size, j, none⟩ = false := fun j => frozen_of_row _ _ j _ _ HR3.out
  have RC : Hid (w3.heap[w2.heap.size + 1]? = some (.cells (ccs pc 0 0 0 0 0 0 0 0 false 0) 38 (0, 0))) := rc
  have HF : Hid (Fr w3 ((w2.alloc _).alloc _).heap.size h n f') := hF
  have hs6 : w.heap.size < w3.heap.size := by omega
  have hs7 : w2.heap.size < w3.heap.size := by omega
  have hs8 : w2.heap.size + 1 < w3.heap.size := by omega
  obtain ⟨D, hD⟩ : ∃ D, Hid (Did D (ccs pc NX 0 0 0 0 TH 4 B false 0) (H.setIfInBounds 32 (.int .u32 NX)) (some ⟨h, 0, none⟩) n cap) := ⟨_, ⟨rfl, rfl, by simp [HH.out], ones_ccs _ _ _ _ _ _ _ _ _ _ _, HO.out.set _ _ (by simp [Value.oneCell'])⟩⟩
  clear hF ri rc hk3 k32 k33 kA kB kR kz CM h32 h33
  go_wp2_with fail
  refine (CZ _).mono ?_
  rintro e w' ⟨rfl, hw⟩
  rw [hw]
  clear hw
  have hh := HF.out.base
  simp at hh
  go_upto_region 69 with fail
  obtain ⟨w5, hw5⟩ : ∃ w5 : World, w5 = (((((w3.setCell ⟨w2.heap.size + 1, 6, none⟩ (.int .u32 TH)).setCell ⟨w2.heap.size + 1, 7, none⟩ (.int .i64 4)).setCell ⟨w2.heap.size + 1, 8, none⟩ (.int .u32 B)).setCell ⟨w2.heap.size + 1, 1, none⟩ (.int .u32 NX)).setCell ⟨w2.heap.size + 1, 2, none⟩ (.int .i64 0)).setCell ⟨w.heap.size, 32, none⟩ (.int .u32 NX) := ⟨_, rfl⟩
  rw [← hw5]
  have r34 : Hid (w5.heap[w.heap.size]? = some (.cells (H.setIfInBounds 32 (.int .u32 NX)) 34 (0, 0))) := by rw [hw5]; exact heap_setCell_same _ _ _ _ _ _ ((heap_setCell_other _ _ _ _ (by simp; omega)).trans ((heap_setCell_other _ _ _ _ (by simp; omega)).trans ((heap_setCell_other _ _ _ _ (by simp; omega)).trans ((heap_setCell_other _ _ _ _ (by simp; omega)).trans ((heap_setCell_other _ _ _ _ (by simp; omega)).trans (HR3.out))))))
  have r38 : Hid (w5.heap[w2.heap.size + 1]? = some (.cells (ccs pc NX 0 0 0 0 TH 4 B false 0) 38 (0, 0))) := by rw [hw5]; exact (heap_setCell_other _ _ _ _ (by simp; omega)).trans (heap_setCell_same _ _ _ _ _ _ (heap_setCell_same _ _ _ _ _ _ (heap_setCell_same _ _ _ _ _ _ (heap_setCell_same _ _ _ _ _ _ (heap_setCell_same _ _ _ _ _ _ (RC.out))))))
  have r42 : Hid (w5.heap[w.heap.size + 1]? = some (.cells Z 42 (0, 0))) := by rw [hw5]; exact (heap_setCell_other _ _ _ _ (by simp)).trans ((heap_setCell_other _ _ _ _ (by simp; omega)).trans ((heap_setCell_other _ _ _ _ (by simp; omega)).trans ((heap_setCell_other _ _ _ _ (by simp; omega)).trans ((heap_setCell_other _ _ _ _ (by simp; omega)).trans ((heap_setCell_other _ _ _ _ (by simp; omega)).trans (HZ3.out))))))
  have b5 : Below w.heap.size w w5 := by rw [hw5]; exact (((((hb3.setCell (by simp; omega) _).setCell (by simp; omega) _).setCell (by simp; omega) _).setCell (by simp; omega) _).setCell (by simp; omega) _).setCell (by simp) _
  have f5 : Hid (Fr w5 w.heap.size h n f') := by rw [hw5]; exact HF.out.moved (by omega) ((heap_setCell_other _ _ _ _ (by simp; omega)).trans ((heap_setCell_other _ _ _ _ (by simp; omega)).trans ((heap_setCell_other _ _ _ _ (by simp; omega)).trans ((heap_setCell_other _ _ _ _ (by simp; omega)).trans ((heap_setCell_other _ _ _ _ (by simp; omega)).trans ((heap_setCell_other _ _ _ _ (by simp; omega)).trans (rfl))))))) (by simp)
  clear hw5 hb3 hb0 HF RC HR3 HZ3 HR HZ c0 c1 c2 c3 c4 c5 c6 c7 c8 c9 c10 m32 m33 mz cz j0 j1
  go_wp2_with (first | (refine wpList_load_row rfl 34 _ rfl _ rfl 34 _ (0, 0) _ (r34.out) Tryd.underlying34 rfl (info_hart hD.out.hH) ?_) | (refine wpList_load_row rfl 38 _ rfl _ rfl 38 _ (0, 0) _ r38.out Tryd.underlying38 rfl size_commit ?_) | (refine wpList_build3 rfl 42 0 1 2 _ _ _ rfl _ _ _ rfl rfl rfl _ hD.out.built ?_) | (refine wpList_store_row rfl 42 _ _ rfl _ _ rfl rfl 42 Z (r42.out) hD.out.info (HZS.out.trans hD.out.size.symm) hD.out.ones ?_))
  exact bodyPost_ret (v := .agg D) (results_cell_row Tryd.results18 _ _ _ 42 D (0, 0) _ rfl (setRow_heap _ _ _ _ _ _ r42.out) Tryd.underlying42 rfl hD.out.info) rfl ⟨⟨D, h, cap, rfl, hD.out, hcap, f5.out.moved (by omega) (setRow_other _ _ _ _ (by omega)) (by simp)⟩, below_row b5 (by simp) _⟩

set_option maxRecDepth 20000 in
set_option maxHeartbeats 4000000 in
theorem qStoreX (H : Array Value) (pc : Int) (p : Option Addr) (n c : Nat) (w : World) (X I N NX TH A B R0 : Int) (rd s1 s2 : Nat) (D : Array Value) (M : Int) (M0 : 16 ≤ M) (M1 : M ≤ 18)
    (hH : H.size = 35) (hO : Ones H) (h32 : H[32]? = some (.int .u32 pc)) (h33 : H[33]? = some (.int .i64 0)) (h34 : H[34]? = some (.int .i64 0))
    (hA : H[s1]? = some (.int .u32 A)) (hB : H[s2]? = some (.int .u32 B)) (hR : H[rd]? = some (.int .u32 R0)) (l1 : s1 < 32) (l2 : s2 < 32) (lr : rd < 32) (i0 : -2147483648 ≤ I) (i1 : I ≤ 2147483647)
    (CL : ∀ W, Below w.heap.size w W → Calls Tryd.prog 36 #[.slice p n c, .int .i64 13, .int .u32 pc] W fun e w' => e = .returned (.tuple #[.int .u32 X, .bool true]) ∧ w' = W)
    (CD : ∀ W, Calls Tryd.prog 12 #[.int .u32 X] W fun e w' => e = .returned (.tuple #[iv M rd s1 s2 I, .bool true]) ∧ Below W.heap.size W w')
    (CO : ∀ W, Calls Tryd.prog 38 #[.int .i64 I] W fun e w' => e = .returned (.int .u32 N) ∧ w' = W)
    (CN : ∀ W, Calls Tryd.prog 39 #[.int .u32 pc, .int .u32 4] W fun e w' => e = .returned (.int .u32 NX) ∧ w' = W)
    (CT : ∀ W, Calls Tryd.prog 39 #[.int .u32 A, .int .u32 N] W fun e w' => e = .returned (.int .u32 TH) ∧ w' = W)
    (CM : ∀ W, Below w.heap.size w W → Calls Tryd.prog 41 #[.slice p n c, .int .i64 M, .int .u32 TH, .int .u32 B] W fun e w' => e = .returned (.tuple #[.slice none 0 0, .bool false]) ∧ w' = W)
    (CX : ∀ W, Calls Tryd.prog 37 #[.agg H, .slice p n c, .int .i64 4] W fun e w' => e = .returned (.agg D) ∧ Below W.heap.size W w')
    (hD : Hid (Did D (ccs pc pc 2 4 0 0 0 0 0 false 0) ((H.setIfInBounds 33 (.int .i64 2)).setIfInBounds 34 (.int .i64 4)) p n c)) :
    Calls Tryd.prog 18 #[.agg H, .slice p n c] w fun e w' => e = .returned (.agg D) ∧ Below w.heap.size w w' := by
  have HH : Hid (H.size = 35) := hH
  have HO : Hid (Ones H) := hO
  have q1 : (M == 1) = false := beq_eq_false_iff_ne.2 (by omega)
  have q2 : (M == 2) = false := beq_eq_false_iff_ne.2 (by omega)
  have q3 : (M == 3) = false := beq_eq_false_iff_ne.2 (by omega)
  have q4 : (M == 4) = false := beq_eq_false_iff_ne.2 (by omega)
  have q47 : (M == 47) = false := beq_eq_false_iff_ne.2 (by omega)
  have q48 : (M == 48) = false := beq_eq_false_iff_ne.2 (by omega)
  have ge5 : decide (5 ≤ M) = true := decide_eq_true (by omega)
  have le10 : decide (M ≤ 10) = false := decide_eq_false (by omega)
  have ge11 : decide (11 ≤ M) = true := decide_eq_true (by omega)
  have le15 : decide (M ≤ 15) = false := decide_eq_false (by omega)
  have ge16 : decide (16 ≤ M) = true := decide_eq_true (by omega)
  have le18 : decide (M ≤ 18) = true := decide_eq_true (by omega)
  have ge19 : decide (19 ≤ M) = false := decide_eq_false (by omega)
  have le27 : decide (M ≤ 27) = true := decide_eq_true (by omega)
  have ge28 : decide (28 ≤ M) = false := decide_eq_false (by omega)
  have le45 : decide (M ≤ 45) = true := decide_eq_true (by omega)
  clear hH hO
  go_enter Tryd.func18, Tryd.ntmps18
  go_wp2_with fail
  refine (CL _ (((Below.refl _ _).alloc (Nat.le_refl _) _).alloc (by simp) _)).mono ?_
  rintro e w' ⟨rfl, rfl⟩
  go_wp2_with fail
  refine (CD _).mono ?_
  rintro e w2 ⟨rfl, hk⟩
  have hs2 := hk.size
  simp at hs2
  have hrow : w2.heap[w.heap.size]? = some (.cells H 34 (0, 0)) := (hk.block _ (by simp; omega)).trans (heap_alloc2_old _ _ _)
  obtain ⟨Z, hZ, hres⟩ : ∃ Z : Array Value, Z.size = 47 ∧ w2.heap[w.heap.size + 1]? = some (.cells Z 42 (0, 0)) := ⟨_, rfl, (hk.block _ (by simp)).trans (heap_alloc2_new _ _ _)⟩
  have HZS : Hid (Z.size = 47) := hZ
  have hb0 : Below w.heap.size w w2 := (((Below.refl _ _).alloc (Nat.le_refl _) _).alloc (by simp) _).trans (hk.mono (by simp; omega))
  have k32 := (cell_of_row w2 w.heap.size 32 _ _ _ hrow).trans h32
  have k33 := (cell_of_row w2 w.heap.size 33 _ _ _ hrow).trans h33
  have kA := (cell_of_row w2 w.heap.size s1 _ _ _ hrow).trans hA
  have kB := (cell_of_row w2 w.heap.size s2 _ _ _ hrow).trans hB
  have kR := (cell_of_row w2 w.heap.size rd _ _ _ hrow).trans hR
  have kz : ∀ j, w2.frozen? ⟨w.heap.size, j, none⟩ = false := fun j => frozen_of_row _ _ j _ _ hrow
  have HR : Hid (w2.heap[w.heap.size]? = some (.cells H 34 (0, 0))) := hrow
  have HZ : Hid (w2.heap[w.heap.size + 1]? = some (.cells Z 42 (0, 0))) := hres
  have hs3 : w.heap.size < w2.heap.size := by omega
  have hs4 : w.heap.size + 1 < w2.heap.size := by omega
  clear hZ hk hrow hres hA hB hR h32 h33 h34 CL CD hs2
  go_wp2_with fail
  refine (CO _).mono ?_
  rintro e w' ⟨rfl, rfl⟩
  go_wp2_with fail
  refine (CN _).mono ?_
  rintro e w' ⟨rfl, rfl⟩
  go_wp2_with fail
  refine (CT _).mono ?_
  rintro e w' ⟨rfl, rfl⟩
  go_wp2_with fail
  refine (CM _ ((hb0.alloc (by omega) _).alloc (by simp; omega) _)).mono ?_
  rintro e w' ⟨rfl, rfl⟩
  go_upto_region 39 with fail
  go_wp2_with (refine wpList_load_row rfl 34 _ rfl _ rfl 34 _ (0, 0) _ (row_up HR.out _ _) Tryd.underlying34 rfl (info_hart HH.out) ?_)
  refine (CX _).mono ?_
  rintro e w3 ⟨rfl, hk3⟩
  have HZ3 : Hid (w3.heap[w.heap.size + 1]? = some (.cells Z 42 (0, 0))) := (hk3.block _ (by simp; omega)).trans (row_up HZ.out _ _)
  have hb3 : Below w.heap.size w w3 := ((hb0.alloc (by omega) _).alloc (by simp; omega) _).trans (hk3.mono (by simp; omega))
  clear hk3
  go_wp2_with (refine wpList_store_row rfl 42 _ _ rfl _ _ rfl rfl 42 Z (HZ3.out) hD.out.info (HZS.out.trans hD.out.size.symm) hD.out.ones ?_)
  exact bodyPost_ret (v := .agg D) (results_cell_row Tryd.results18 _ _ _ 42 D (0, 0) _ rfl (setRow_heap _ _ _ _ _ _ (HZ3.out)) Tryd.underlying42 rfl hD.out.info) rfl ⟨rfl, below_row (hb3) (by simp) _⟩

end Go.Proofs.YtpiohehijkpghaaDoor
namespace Go.Proofs.YtpiohehijkpghaaDoor
open Go.RowKit
open Hy
set_option linter.unusedVariables false

set_option maxRecDepth 20000 in
set_option maxHeartbeats 4000000 in
theorem qFetch (H : Array Value) (pc : Int) (p : Option Addr) (n c : Nat) (w : World) (X : Int) (D : Array Value) (hH : H.size = 35) (h32 : H[32]? = some (.int .u32 pc))
    (CL : ∀ W, Below w.heap.size w W → Calls Tryd.prog 36 #[.slice p n c, .int .i64 13, .int .u32 pc] W fun e w' => e = .returned (.tuple #[.int .u32 X, .bool false]) ∧ w' = W)
    (CX : ∀ W, Calls Tryd.prog 37 #[.agg H, .slice p n c, .int .i64 1] W fun e w' => e = .returned (.agg D) ∧ Below W.heap.size W w')
    (hD : Hid (Did D (ccs pc pc 2 1 0 0 0 0 0 false 0) ((H.setIfInBounds 33 (.int .i64 2)).setIfInBounds 34 (.int .i64 1)) p n c)) :
    Calls Tryd.prog 18 #[.agg H, .slice p n c] w fun e w' => e = .returned (.agg D) ∧ Below w.heap.size w w' := by
  have HH : Hid (H.size = 35) := hH
  clear hH
  go_enter Tryd.func18, Tryd.ntmps18
  go_wp2_with fail
  refine (CL _ (((Below.refl _ _).alloc (Nat.le_refl _) _).alloc (by simp) _)).mono ?_
  rintro e w' ⟨rfl, rfl⟩
  go_upto_region 3 with fail
  go_wp2_with (refine wpList_load_row rfl 34 _ rfl _ rfl 34 _ (0, 0) _ (heap_alloc2_old _ _ _) Tryd.underlying34 rfl (info_hart HH.out) ?_)
  refine (CX _).mono ?_
  rintro e w3 ⟨rfl, hk⟩
  have hs2 := hk.size
  simp at hs2
  obtain ⟨Z, hZ, hres⟩ : ∃ Z : Array Value, Z.size = 47 ∧ w3.heap[w.heap.size + 1]? = some (.cells Z 42 (0, 0)) := ⟨_, rfl, (hk.block _ (by simp)).trans (heap_alloc2_new _ _ _)⟩
  have HZS : Hid (Z.size = 47) := hZ
  have HZ3 : Hid (w3.heap[w.heap.size + 1]? = some (.cells Z 42 (0, 0))) := hres
  have hb3 : Below w.heap.size w w3 := (((Below.refl _ _).alloc (Nat.le_refl _) _).alloc (by simp) _).trans (hk.mono (by simp; omega))
  clear hk hZ hres CL
  go_wp2_with (refine wpList_store_row rfl 42 _ _ rfl _ _ rfl rfl 42 Z (HZ3.out) hD.out.info (HZS.out.trans hD.out.size.symm) hD.out.ones ?_)
  exact bodyPost_ret (v := .agg D) (results_cell_row Tryd.results18 _ _ _ 42 D (0, 0) _ rfl (setRow_heap _ _ _ _ _ _ (HZ3.out)) Tryd.underlying42 rfl hD.out.info) rfl ⟨rfl, below_row (hb3) (by simp) _⟩

set_option maxRecDepth 20000 in
set_option maxHeartbeats 4000000 in
theorem qWord (H : Array Value) (pc : Int) (p : Option Addr) (n c : Nat) (w : World) (X : Int) (D : Array Value) (hH : H.size = 35) (h32 : H[32]? = some (.int .u32 pc))
    (CL : ∀ W, Below w.heap.size w W → Calls Tryd.prog 36 #[.slice p n c, .int .i64 13, .int .u32 pc] W fun e w' => e = .returned (.tuple #[.int .u32 X, .bool true]) ∧ w' = W)
    (CD : ∀ W, Calls Tryd.prog 12 #[.int .u32 X] W fun e w' => e = .returned (.tuple #[iv 0 0 0 0 0, .bool false]) ∧ Below W.heap.size W w')
    (CX : ∀ W, Calls Tryd.prog 37 #[.agg H, .slice p n c, .int .i64 2] W fun e w' => e = .returned (.agg D) ∧ Below W.heap.size W w')
    (hD : Hid (Did D (ccs pc pc 2 2 0 0 0 0 0 false 0) ((H.setIfInBounds 33 (.int .i64 2)).setIfInBounds 34 (.int .i64 2)) p n c)) :
    Calls Tryd.prog 18 #[.agg H, .slice p n c] w fun e w' => e = .returned (.agg D) ∧ Below w.heap.size w w' := by
  have HH : Hid (H.size = 35) := hH
  clear hH
  go_enter Tryd.func18, Tryd.ntmps18
  go_wp2_with fail
  refine (CL _ (((Below.refl _ _).alloc (Nat.le_refl _) _).alloc (by simp) _)).mono ?_
  rintro e w' ⟨rfl, rfl⟩
  go_wp2_with fail
  refine (CD _).mono ?_
  rintro e w2 ⟨rfl, hk⟩
  have hs2 := hk.size
  simp at hs2
  have HR : Hid (w2.heap[w.heap.size]? = some (.cells H 34 (0, 0))) := (hk.block _ (by simp; omega)).trans (heap_alloc2_old _ _ _)
  obtain ⟨Z, hZ, hres⟩ : ∃ Z : Array Value, Z.size = 47 ∧ w2.heap[w.heap.size + 1]? = some (.cells Z 42 (0, 0)) := ⟨_, rfl, (hk.block _ (by simp)).trans (heap_alloc2_new _ _ _)⟩
  have HZS : Hid (Z.size = 47) := hZ
  have HZ : Hid (w2.heap[w.heap.size + 1]? = some (.cells Z 42 (0, 0))) := hres
  have hb0 : Below w.heap.size w w2 := (((Below.refl _ _).alloc (Nat.le_refl _) _).alloc (by simp) _).trans (hk.mono (by simp; omega))
  have hs3 : w.heap.size < w2.heap.size := by omega
  have hs4 : w.heap.size + 1 < w2.heap.size := by omega
  clear hk hZ hres CL CD hs2
  go_upto_region 6 with fail
  go_wp2_with (refine wpList_load_row rfl 34 _ rfl _ rfl 34 _ (0, 0) _ ((Below.heap_alloc _ _ _ hs3).trans HR.out) Tryd.underlying34 rfl (info_hart HH.out) ?_)
  refine (CX _).mono ?_
  rintro e w3 ⟨rfl, hk3⟩
  have HZ3 : Hid (w3.heap[w.heap.size + 1]? = some (.cells Z 42 (0, 0))) := (hk3.block _ (by simp; omega)).trans ((Below.heap_alloc _ _ _ hs4).trans HZ.out)
  have hb3 : Below w.heap.size w w3 := (hb0.alloc (by omega) _).trans (hk3.mono (by simp; omega))
  clear hk3
  go_wp2_with (refine wpList_store_row rfl 42 _ _ rfl _ _ rfl rfl 42 Z (HZ3.out) hD.out.info (HZS.out.trans hD.out.size.symm) hD.out.ones ?_)
  exact bodyPost_ret (v := .agg D) (results_cell_row Tryd.results18 _ _ _ 42 D (0, 0) _ rfl (setRow_heap _ _ _ _ _ _ (HZ3.out)) Tryd.underlying42 rfl hD.out.info) rfl ⟨rfl, below_row (hb3) (by simp) _⟩
end Go.Proofs.YtpiohehijkpghaaDoor
