/- The document's Step, of an instruction with two registers: walked. -/
import Derived.Test.YtpiohehijkpghaaDoorHartB
import Derived.Test.YtpiohehijkpghaaDoorDecWr
import Derived.Deep.Cut
import Derived.WalkSmall
namespace Go.Proofs.YtpiohehijkpghaaDoor
open Go.RowKit
open Hy
set_option linter.unusedVariables false

set_option maxRecDepth 20000 in
set_option maxHeartbeats 4000000 in
theorem qReg_0 (H : Array Value) (pc : Int) (p : Option Addr) (n c : Nat) (w : World) (X I N NX TH A B R0 : Int) (rd s1 s2 : Nat) (D : Array Value) (M V : Int) (M0 : 28 ≤ M) (M1 : M ≤ 45)
    (hH : H.size = 35) (hO : Ones H) (h32 : H[32]? = some (.int .u32 pc)) (h33 : H[33]? = some (.int .i64 0)) (h34 : H[34]? = some (.int .i64 0))
    (hA : H[s1]? = some (.int .u32 A)) (hB : H[s2]? = some (.int .u32 B)) (hR : H[rd]? = some (.int .u32 R0)) (l1 : s1 < 32) (l2 : s2 < 32) (lr : rd < 32) (i0 : -2147483648 ≤ I) (i1 : I ≤ 2147483647) (hz : ((rd : Int) != 0) = false)
    (CL : ∀ W, Below w.heap.size w W → Calls Tryd.prog 36 #[.slice p n c, .int .i64 13, .int .u32 pc] W fun e w' => e = .returned (.tuple #[.int .u32 X, .bool true]) ∧ w' = W)
    (CD : ∀ W, Calls Tryd.prog 12 #[.int .u32 X] W fun e w' => e = .returned (.tuple #[iv M rd s1 s2 I, .bool true]) ∧ Below W.heap.size W w')
    (CO : ∀ W, Calls Tryd.prog 38 #[.int .i64 I] W fun e w' => e = .returned (.int .u32 N) ∧ w' = W)
    (CN : ∀ W, Calls Tryd.prog 39 #[.int .u32 pc, .int .u32 4] W fun e w' => e = .returned (.int .u32 NX) ∧ w' = W)
    (CT : ∀ W, Calls Tryd.prog 39 #[.int .u32 A, .int .u32 N] W fun e w' => e = .returned (.int .u32 TH) ∧ w' = W)
    (CA : ∀ W, Calls Tryd.prog 44 #[.int .i64 M, .int .u32 A, .int .u32 B] W fun e w' => e = .returned (.int .u32 V) ∧ ∃ k, w' = W.drewN k)
    (hD : Hid (Did D (ccs pc NX 0 0 0 0 0 0 0 false 0) (H.setIfInBounds 32 (.int .u32 NX)) p n c)) :
    Calls Tryd.prog 18 #[.agg H, .slice p n c] w fun e w' => e = .returned (.agg D) ∧ Below w.heap.size w w' := by
  have HH : Hid (H.size = 35) := hH
  have HO : Hid (Ones H) := hO
  have q1 : (M == 1) = false := beq_eq_false_iff_ne.2 (by omega)
  have q2 : (M == 2) = false := beq_eq_false_iff_ne.2 (by omega)
  have q3 : (M == 3) = false := beq_eq_false_iff_ne.2 (by omega)
  have q4 : (M == 4) = false := beq_eq_false_iff_ne.2 (by omega)
  have q47 : (M == 47) = false := beq_eq_false_iff_ne.2 (by omega)
  have q48 : (M == 48) = false := beq_eq_false_iff_ne.2 (by omega)
  have ge5 : decide (5 ≤ M) = true := decide_eq_true (by omega)
  have le10 : decide (M ≤ 10) = false := decide_eq_false (by omega)
  have ge11 : decide (11 ≤ M) = true := decide_eq_true (by omega)
  have le15 : decide (M ≤ 15) = false := decide_eq_false (by omega)
  have ge16 : decide (16 ≤ M) = true := decide_eq_true (by omega)
  have le18 : decide (M ≤ 18) = false := decide_eq_false (by omega)
  have ge19 : decide (19 ≤ M) = true := decide_eq_true (by omega)
  have le27 : decide (M ≤ 27) = false := decide_eq_false (by omega)
  have ge28 : decide (28 ≤ M) = true := decide_eq_true (by omega)
  have le45 : decide (M ≤ 45) = true := decide_eq_true (by omega)
  clear hH hO
  go_enter Tryd.func18, Tryd.ntmps18
  go_wp2_with fail
  refine (CL _ (((Below.refl _ _).alloc (Nat.le_refl _) _).alloc (by simp) _)).mono ?_
  rintro e w' ⟨rfl, rfl⟩
  go_wp2_with fail
  refine (CD _).mono ?_
  rintro e w2 ⟨rfl, hk⟩
  have hs2 := hk.size
  simp at hs2
  have hrow : w2.heap[w.heap.size]? = some (.cells H 34 (0, 0)) := (hk.block _ (by simp; omega)).trans (heap_alloc2_old _ _ _)
  obtain ⟨Z, hZ, hres⟩ : ∃ Z : Array Value, Z.size = 47 ∧ w2.heap[w.heap.size + 1]? = some (.cells Z 42 (0, 0)) := ⟨_, rfl, (hk.block _ (by simp)).trans (heap_alloc2_new _ _ _)⟩
  have HZS : Hid (Z.size = 47) := hZ
  have hb0 : Below w.heap.size w w2 := (((Below.refl _ _).alloc (Nat.le_refl _) _).alloc (by simp) _).trans (hk.mono (by simp; omega))
  have k32 := (cell_of_row w2 w.heap.size 32 _ _ _ hrow).trans h32
  have k33 := (cell_of_row w2 w.heap.size 33 _ _ _ hrow).trans h33
  have kA := (cell_of_row w2 w.heap.size s1 _ _ _ hrow).trans hA
  have kB := (cell_of_row w2 w.heap.size s2 _ _ _ hrow).trans hB
  have kR := (cell_of_row w2 w.heap.size rd _ _ _ hrow).trans hR
  have kz : ∀ j, w2.frozen? ⟨w.heap.size, j, none⟩ = false := fun j => frozen_of_row _ _ j _ _ hrow
  have HR : Hid (w2.heap[w.heap.size]? = some (.cells H 34 (0, 0))) := hrow
  have HZ : Hid (w2.heap[w.heap.size + 1]? = some (.cells Z 42 (0, 0))) := hres
  have hs3 : w.heap.size < w2.heap.size := by omega
  have hs4 : w.heap.size + 1 < w2.heap.size := by omega
  clear hZ hk hrow hres hA hB hR h32 h33 h34 CL CD hs2
  go_wp2_with fail
  refine (CO _).mono ?_
  rintro e w' ⟨rfl, rfl⟩
  go_wp2_with fail
  refine (CN _).mono ?_
  rintro e w' ⟨rfl, rfl⟩
  go_wp2_with fail
  refine (CT _).mono ?_
  rintro e w' ⟨rfl, rfl⟩
  go_wp2_with fail
  refine (CA _).mono ?_
  rintro e w' ⟨rfl, nq, rfl⟩
  rw [drewN_alloc, drewN_alloc]
  obtain ⟨w4, hw4⟩ : ∃ w4, w4 = w2.drewN nq := ⟨_, rfl⟩
  rw [← hw4, show w2.heap.size = w4.heap.size by rw [hw4]; rfl]
  replace k32 : w4.cell? ⟨w.heap.size, 32, none⟩ = some (.int .u32 pc) := by subst hw4; exact k32
  replace k33 : w4.cell? ⟨w.heap.size, 33, none⟩ = some (.int .i64 0) := by subst hw4; exact k33
  replace kR : w4.cell? ⟨w.heap.size, rd, none⟩ = some (.int .u32 R0) := by subst hw4; exact kR
  replace kz : ∀ j, w4.frozen? ⟨w.heap.size, j, none⟩ = false := by subst hw4; exact kz
  replace HR : Hid (w4.heap[w.heap.size]? = some (.cells H 34 (0, 0))) := by subst hw4; exact HR
  replace HZ : Hid (w4.heap[w.heap.size + 1]? = some (.cells Z 42 (0, 0))) := by subst hw4; exact HZ
  replace hs3 : w.heap.size < w4.heap.size := by subst hw4; exact hs3
  replace hs4 : w.heap.size + 1 < w4.heap.size := by subst hw4; exact hs4
  replace hb0 : Below w.heap.size w w4 := by subst hw4; exact below_drewN hb0 nq
  clear hw4 kA kB
  go_upto_region 69 with fail
  go_wp2_with (first | (refine wpList_load_row rfl 34 _ rfl _ rfl 34 _ (0, 0) _ (row_up (heap_setCell_same _ _ _ _ _ _ HR.out) _ _) Tryd.underlying34 rfl (info_hart hD.out.hH) ?_) | (refine wpList_build3 rfl 42 0 1 2 _ _ _ rfl _ _ _ rfl rfl rfl _ hD.out.built ?_) | (refine wpList_store_row rfl 42 _ _ rfl _ _ rfl rfl 42 Z (row_up ((heap_setCell_other _ _ _ _ (by simp)).trans HZ.out) _ _) hD.out.info (HZS.out.trans hD.out.size.symm) hD.out.ones ?_))
  exact bodyPost_ret (v := .agg D) (results_cell_row Tryd.results18 _ _ _ 42 D (0, 0) _ rfl (setRow_heap _ _ _ _ _ _ (row_up ((heap_setCell_other _ _ _ _ (by simp)).trans HZ.out) _ _)) Tryd.underlying42 rfl hD.out.info) rfl ⟨rfl, below_row (((hb0.setCell (by simp) _).alloc (by simp; omega) _).alloc (by simp; omega) _) (by simp) _⟩

set_option maxRecDepth 20000 in
set_option maxHeartbeats 4000000 in
theorem qReg_1 (H : Array Value) (pc : Int) (p : Option Addr) (n c : Nat) (w : World) (X I N NX TH A B R0 : Int) (rd s1 s2 : Nat) (D : Array Value) (M V : Int) (M0 : 28 ≤ M) (M1 : M ≤ 45)
    (hH : H.size = 35) (hO : Ones H) (h32 : H[32]? = some (.int .u32 pc)) (h33 : H[33]? = some (.int .i64 0)) (h34 : H[34]? = some (.int .i64 0))
    (hA : H[s1]? = some (.int .u32 A)) (hB : H[s2]? = some (.int .u32 B)) (hR : H[rd]? = some (.int .u32 R0)) (l1 : s1 < 32) (l2 : s2 < 32) (lr : rd < 32) (i0 : -2147483648 ≤ I) (i1 : I ≤ 2147483647) (hz : ((rd : Int) != 0) = true)
    (CL : ∀ W, Below w.heap.size w W → Calls Tryd.prog 36 #[.slice p n c, .int .i64 13, .int .u32 pc] W fun e w' => e = .returned (.tuple #[.int .u32 X, .bool true]) ∧ w' = W)
    (CD : ∀ W, Calls Tryd.prog 12 #[.int .u32 X] W fun e w' => e = .returned (.tuple #[iv M rd s1 s2 I, .bool true]) ∧ Below W.heap.size W w')
    (CO : ∀ W, Calls Tryd.prog 38 #[.int .i64 I] W fun e w' => e = .returned (.int .u32 N) ∧ w' = W)
    (CN : ∀ W, Calls Tryd.prog 39 #[.int .u32 pc, .int .u32 4] W fun e w' => e = .returned (.int .u32 NX) ∧ w' = W)
    (CT : ∀ W, Calls Tryd.prog 39 #[.int .u32 A, .int .u32 N] W fun e w' => e = .returned (.int .u32 TH) ∧ w' = W)
    (CA : ∀ W, Calls Tryd.prog 44 #[.int .i64 M, .int .u32 A, .int .u32 B] W fun e w' => e = .returned (.int .u32 V) ∧ ∃ k, w' = W.drewN k)
    (hD : Hid (Did D (ccs pc NX 0 0 rd V 0 0 0 false 0) ((H.setIfInBounds rd (.int .u32 V)).setIfInBounds 32 (.int .u32 NX)) p n c)) :
    Calls Tryd.prog 18 #[.agg H, .slice p n c] w fun e w' => e = .returned (.agg D) ∧ Below w.heap.size w w' := by
  have HH : Hid (H.size = 35) := hH
  have HO : Hid (Ones H) := hO
  have q1 : (M == 1) = false := beq_eq_false_iff_ne.2 (by omega)
  have q2 : (M == 2) = false := beq_eq_false_iff_ne.2 (by omega)
  have q3 : (M == 3) = false := beq_eq_false_iff_ne.2 (by omega)
  have q4 : (M == 4) = false := beq_eq_false_iff_ne.2 (by omega)
  have q47 : (M == 47) = false := beq_eq_false_iff_ne.2 (by omega)
  have q48 : (M == 48) = false := beq_eq_false_iff_ne.2 (by omega)
  have ge5 : decide (5 ≤ M) = true := decide_eq_true (by omega)
  have le10 : decide (M ≤ 10) = false := decide_eq_false (by omega)
  have ge11 : decide (11 ≤ M) = true := decide_eq_true (by omega)
  have le15 : decide (M ≤ 15) = false := decide_eq_false (by omega)
  have ge16 : decide (16 ≤ M) = true := decide_eq_true (by omega)
  have le18 : decide (M ≤ 18) = false := decide_eq_false (by omega)
  have ge19 : decide (19 ≤ M) = true := decide_eq_true (by omega)
  have le27 : decide (M ≤ 27) = false := decide_eq_false (by omega)
  have ge28 : decide (28 ≤ M) = true := decide_eq_true (by omega)
  have le45 : decide (M ≤ 45) = true := decide_eq_true (by omega)
  clear hH hO
  go_enter Tryd.func18, Tryd.ntmps18
  go_wp2_with fail
  refine (CL _ (((Below.refl _ _).alloc (Nat.le_refl _) _).alloc (by simp) _)).mono ?_
  rintro e w' ⟨rfl, rfl⟩
  go_wp2_with fail
  refine (CD _).mono ?_
  rintro e w2 ⟨rfl, hk⟩
  have hs2 := hk.size
  simp at hs2
  have hrow : w2.heap[w.heap.size]? = some (.cells H 34 (0, 0)) := (hk.block _ (by simp; omega)).trans (heap_alloc2_old _ _ _)
  obtain ⟨Z, hZ, hres⟩ : ∃ Z : Array Value, Z.size = 47 ∧ w2.heap[w.heap.size + 1]? = some (.cells Z 42 (0, 0)) := ⟨_, rfl, (hk.block _ (by simp)).trans (heap_alloc2_new _ _ _)⟩
  have HZS : Hid (Z.size = 47) := hZ
  have hb0 : Below w.heap.size w w2 := (((Below.refl _ _).alloc (Nat.le_refl _) _).alloc (by simp) _).trans (hk.mono (by simp; omega))
  have k32 := (cell_of_row w2 w.heap.size 32 _ _ _ hrow).trans h32
  have k33 := (cell_of_row w2 w.heap.size 33 _ _ _ hrow).trans h33
  have kA := (cell_of_row w2 w.heap.size s1 _ _ _ hrow).trans hA
  have kB := (cell_of_row w2 w.heap.size s2 _ _ _ hrow).trans hB
  have kR := (cell_of_row w2 w.heap.size rd _ _ _ hrow).trans hR
  have kz : ∀ j, w2.frozen? ⟨w.heap.size, j, none⟩ = false := fun j => frozen_of_row _ _ j _ _ hrow
  have HR : Hid (w2.heap[w.heap.size]? = some (.cells H 34 (0, 0))) := hrow
  have HZ : Hid (w2.heap[w.heap.size + 1]? = some (.cells Z 42 (0, 0))) := hres
  have hs3 : w.heap.size < w2.heap.size := by omega
  have hs4 : w.heap.size + 1 < w2.heap.size := by omega
  clear hZ hk hrow hres hA hB hR h32 h33 h34 CL CD hs2
  go_wp2_with fail
  refine (CO _).mono ?_
  rintro e w' ⟨rfl, rfl⟩
  go_wp2_with fail
  refine (CN _).mono ?_
  rintro e w' ⟨rfl, rfl⟩
  go_wp2_with fail
  refine (CT _).mono ?_
  rintro e w' ⟨rfl, rfl⟩
  go_wp2_with fail
  refine (CA _).mono ?_
  rintro e w' ⟨rfl, nq, rfl⟩
  rw [drewN_alloc, drewN_alloc]
  obtain ⟨w4, hw4⟩ : ∃ w4, w4 = w2.drewN nq := ⟨_, rfl⟩
  rw [← hw4, show w2.heap.size = w4.heap.size by rw [hw4]; rfl]
  replace k32 : w4.cell? ⟨w.heap.size, 32, none⟩ = some (.int .u32 pc) := by subst hw4; exact k32
  replace k33 : w4.cell? ⟨w.heap.size, 33, none⟩ = some (.int .i64 0) := by subst hw4; exact k33
  replace kR : w4.cell? ⟨w.heap.size, rd, none⟩ = some (.int .u32 R0) := by subst hw4; exact kR
  replace kz : ∀ j, w4.frozen? ⟨w.heap.size, j, none⟩ = false := by subst hw4; exact kz
  replace HR : Hid (w4.heap[w.heap.size]? = some (.cells H 34 (0, 0))) := by subst hw4; exact HR
  replace HZ : Hid (w4.heap[w.heap.size + 1]? = some (.cells Z 42 (0, 0))) := by subst hw4; exact HZ
  replace hs3 : w.heap.size < w4.heap.size := by subst hw4; exact hs3
  replace hs4 : w.heap.size + 1 < w4.heap.size := by subst hw4; exact hs4
  replace hb0 : Below w.heap.size w w4 := by subst hw4; exact below_drewN hb0 nq
  clear hw4 kA kB
  go_upto_region 69 with fail
  go_wp2_with (first | (refine wpList_load_row rfl 34 _ rfl _ rfl 34 _ (0, 0) _ (row_up (heap_setCell_same _ _ _ _ _ _ (heap_setCell_same _ _ _ _ _ _ HR.out)) _ _) Tryd.underlying34 rfl (info_hart hD.out.hH) ?_) | (refine wpList_build3 rfl 42 0 1 2 _ _ _ rfl _ _ _ rfl rfl rfl _ hD.out.built ?_) | (refine wpList_store_row rfl 42 _ _ rfl _ _ rfl rfl 42 Z (row_up ((heap_setCell_other _ _ _ _ (by simp)).trans ((heap_setCell_other _ _ _ _ (by simp)).trans HZ.out)) _ _) hD.out.info (HZS.out.trans hD.out.size.symm) hD.out.ones ?_))
  exact bodyPost_ret (v := .agg D) (results_cell_row Tryd.results18 _ _ _ 42 D (0, 0) _ rfl (setRow_heap _ _ _ _ _ _ (row_up ((heap_setCell_other _ _ _ _ (by simp)).trans ((heap_setCell_other _ _ _ _ (by simp)).trans HZ.out)) _ _)) Tryd.underlying42 rfl hD.out.info) rfl ⟨rfl, below_row ((((hb0.setCell (by simp) _).setCell (by simp) _).alloc (by simp; omega) _).alloc (by simp; omega) _) (by simp) _⟩

end Go.Proofs.YtpiohehijkpghaaDoor
namespace Go.Proofs.YtpiohehijkpghaaDoor
open Go.RowKit
open Hy
set_option linter.unusedVariables false

set_option maxRecDepth 20000 in
set_option maxHeartbeats 4000000 in
theorem qFence (H : Array Value) (pc : Int) (p : Option Addr) (n c : Nat) (w : World) (X I N NX TH A B R0 : Int) (rd s1 s2 : Nat) (D : Array Value)
    (hH : H.size = 35) (hO : Ones H) (h32 : H[32]? = some (.int .u32 pc)) (h33 : H[33]? = some (.int .i64 0)) (h34 : H[34]? = some (.int .i64 0))
    (hA : H[s1]? = some (.int .u32 A)) (hB : H[s2]? = some (.int .u32 B)) (hR : H[rd]? = some (.int .u32 R0)) (l1 : s1 < 32) (l2 : s2 < 32) (lr : rd < 32) (i0 : -2147483648 ≤ I) (i1 : I ≤ 2147483647)
    (CL : ∀ W, Below w.heap.size w W → Calls Tryd.prog 36 #[.slice p n c, .int .i64 13, .int .u32 pc] W fun e w' => e = .returned (.tuple #[.int .u32 X, .bool true]) ∧ w' = W)
    (CD : ∀ W, Calls Tryd.prog 12 #[.int .u32 X] W fun e w' => e = .returned (.tuple #[iv 46 rd s1 s2 I, .bool true]) ∧ Below W.heap.size W w')
    (CO : ∀ W, Calls Tryd.prog 38 #[.int .i64 I] W fun e w' => e = .returned (.int .u32 N) ∧ w' = W)
    (CN : ∀ W, Calls Tryd.prog 39 #[.int .u32 pc, .int .u32 4] W fun e w' => e = .returned (.int .u32 NX) ∧ w' = W)
    (CT : ∀ W, Calls Tryd.prog 39 #[.int .u32 A, .int .u32 N] W fun e w' => e = .returned (.int .u32 TH) ∧ w' = W)
    (hD : Hid (Did D (ccs pc NX 0 0 0 0 0 0 0 false 0) (H.setIfInBounds 32 (.int .u32 NX)) p n c)) :
    Calls Tryd.prog 18 #[.agg H, .slice p n c] w fun e w' => e = .returned (.agg D) ∧ Below w.heap.size w w' := by
  have HH : Hid (H.size = 35) := hH
  have HO : Hid (Ones H) := hO
  clear hH hO
  go_enter Tryd.func18, Tryd.ntmps18
  go_wp2_with fail
  refine (CL _ (((Below.refl _ _).alloc (Nat.le_refl _) _).alloc (by simp) _)).mono ?_
  rintro e w' ⟨rfl, rfl⟩
  go_wp2_with fail
  refine (CD _).mono ?_
  rintro e w2 ⟨rfl, hk⟩
  have hs2 := hk.size
  simp at hs2
  have hrow : w2.heap[w.heap.size]? = some (.cells H 34 (0, 0)) := (hk.block _ (by simp; omega)).trans (heap_alloc2_old _ _ _)
  obtain ⟨Z, hZ, hres⟩ : ∃ Z : Array Value, Z.size = 47 ∧ w2.heap[w.heap.size + 1]? = some (.cells Z 42 (0, 0)) := ⟨_, rfl, (hk.block _ (by simp)).trans (heap_alloc2_new _ _ _)⟩
  have HZS : Hid (Z.size = 47) := hZ
  have hb0 : Below w.heap.size w w2 := (((Below.refl _ _).alloc (Nat.le_refl _) _).alloc (by simp) _).trans (hk.mono (by simp; omega))
  have k32 := (cell_of_row w2 w.heap.size 32 _ _ _ hrow).trans h32
  have k33 := (cell_of_row w2 w.heap.size 33 _ _ _ hrow).trans h33
  have kA := (cell_of_row w2 w.heap.size s1 _ _ _ hrow).trans hA
  have kB := (cell_of_row w2 w.heap.size s2 _ _ _ hrow).trans hB
  have kR := (cell_of_row w2 w.heap.size rd _ _ _ hrow).trans hR
  have kz : ∀ j, w2.frozen? ⟨w.heap.size, j, none⟩ = false := fun j => frozen_of_row _ _ j _ _ hrow
  have HR : Hid (w2.heap[w.heap.size]? = some (.cells H 34 (0, 0))) := hrow
  have HZ : Hid (w2.heap[w.heap.size + 1]? = some (.cells Z 42 (0, 0))) := hres
  have hs3 : w.heap.size < w2.heap.size := by omega
  have hs4 : w.heap.size + 1 < w2.heap.size := by omega
  clear hZ hk hrow hres hA hB hR h32 h33 h34 CL CD hs2
  go_wp2_with fail
  refine (CO _).mono ?_
  rintro e w' ⟨rfl, rfl⟩
  go_wp2_with fail
  refine (CN _).mono ?_
  rintro e w' ⟨rfl, rfl⟩
  go_wp2_with fail
  refine (CT _).mono ?_
  rintro e w' ⟨rfl, rfl⟩
  go_upto_region 69 with fail
  go_wp2_with (first | (refine wpList_load_row rfl 34 _ rfl _ rfl 34 _ (0, 0) _ (row_up (heap_setCell_same _ _ _ _ _ _ HR.out) _ _) Tryd.underlying34 rfl (info_hart hD.out.hH) ?_) | (refine wpList_build3 rfl 42 0 1 2 _ _ _ rfl _ _ _ rfl rfl rfl _ hD.out.built ?_) | (refine wpList_store_row rfl 42 _ _ rfl _ _ rfl rfl 42 Z (row_up ((heap_setCell_other _ _ _ _ (by simp)).trans HZ.out) _ _) hD.out.info (HZS.out.trans hD.out.size.symm) hD.out.ones ?_))
  exact bodyPost_ret (v := .agg D) (results_cell_row Tryd.results18 _ _ _ 42 D (0, 0) _ rfl (setRow_heap _ _ _ _ _ _ (row_up ((heap_setCell_other _ _ _ _ (by simp)).trans HZ.out) _ _)) Tryd.underlying42 rfl hD.out.info) rfl ⟨rfl, below_row (((hb0.setCell (by simp) _).alloc (by simp; omega) _).alloc (by simp; omega) _) (by simp) _⟩

set_option maxRecDepth 20000 in
set_option maxHeartbeats 4000000 in
theorem qCall0 (H : Array Value) (pc : Int) (p : Option Addr) (n c : Nat) (w : World) (X I N NX TH A B R0 : Int) (rd s1 s2 : Nat) (D : Array Value) (T10 : Int) (h17 : H[17]? = some (.int .u32 0)) (h10 : H[10]? = some (.int .u32 T10))
    (hH : H.size = 35) (hO : Ones H) (h32 : H[32]? = some (.int .u32 pc)) (h33 : H[33]? = some (.int .i64 0)) (h34 : H[34]? = some (.int .i64 0))
    (hA : H[s1]? = some (.int .u32 A)) (hB : H[s2]? = some (.int .u32 B)) (hR : H[rd]? = some (.int .u32 R0)) (l1 : s1 < 32) (l2 : s2 < 32) (lr : rd < 32) (i0 : -2147483648 ≤ I) (i1 : I ≤ 2147483647)
    (CL : ∀ W, Below w.heap.size w W → Calls Tryd.prog 36 #[.slice p n c, .int .i64 13, .int .u32 pc] W fun e w' => e = .returned (.tuple #[.int .u32 X, .bool true]) ∧ w' = W)
    (CD : ∀ W, Calls Tryd.prog 12 #[.int .u32 X] W fun e w' => e = .returned (.tuple #[iv 47 rd s1 s2 I, .bool true]) ∧ Below W.heap.size W w')
    (CO : ∀ W, Calls Tryd.prog 38 #[.int .i64 I] W fun e w' => e = .returned (.int .u32 N) ∧ w' = W)
    (CN : ∀ W, Calls Tryd.prog 39 #[.int .u32 pc, .int .u32 4] W fun e w' => e = .returned (.int .u32 NX) ∧ w' = W)
    (CT : ∀ W, Calls Tryd.prog 39 #[.int .u32 A, .int .u32 N] W fun e w' => e = .returned (.int .u32 TH) ∧ w' = W)
    (hD : Hid (Did D (ccs pc pc 1 0 0 0 0 0 0 false 0) ((H.setIfInBounds 33 (.int .i64 1)).setIfInBounds 32 (.int .u32 pc)) p n c)) :
    Calls Tryd.prog 18 #[.agg H, .slice p n c] w fun e w' => e = .returned (.agg D) ∧ Below w.heap.size w w' := by
  have HH : Hid (H.size = 35) := hH
  have HO : Hid (Ones H) := hO
  clear hH hO
  go_enter Tryd.func18, Tryd.ntmps18
  go_wp2_with fail
  refine (CL _ (((Below.refl _ _).alloc (Nat.le_refl _) _).alloc (by simp) _)).mono ?_
  rintro e w' ⟨rfl, rfl⟩
  go_wp2_with fail
  refine (CD _).mono ?_
  rintro e w2 ⟨rfl, hk⟩
  have hs2 := hk.size
  simp at hs2
  have hrow : w2.heap[w.heap.size]? = some (.cells H 34 (0, 0)) := (hk.block _ (by simp; omega)).trans (heap_alloc2_old _ _ _)
  obtain ⟨Z, hZ, hres⟩ : ∃ Z : Array Value, Z.size = 47 ∧ w2.heap[w.heap.size + 1]? = some (.cells Z 42 (0, 0)) := ⟨_, rfl, (hk.block _ (by simp)).trans (heap_alloc2_new _ _ _)⟩
  have HZS : Hid (Z.size = 47) := hZ
  have hb0 : Below w.heap.size w w2 := (((Below.refl _ _).alloc (Nat.le_refl _) _).alloc (by simp) _).trans (hk.mono (by simp; omega))
  have k32 := (cell_of_row w2 w.heap.size 32 _ _ _ hrow).trans h32
  have k33 := (cell_of_row w2 w.heap.size 33 _ _ _ hrow).trans h33
  have kA := (cell_of_row w2 w.heap.size s1 _ _ _ hrow).trans hA
  have kB := (cell_of_row w2 w.heap.size s2 _ _ _ hrow).trans hB
  have kR := (cell_of_row w2 w.heap.size rd _ _ _ hrow).trans hR
  have k17 := (cell_of_row w2 w.heap.size 17 _ _ _ hrow).trans h17
  have k10 := (cell_of_row w2 w.heap.size 10 _ _ _ hrow).trans h10
  have kz : ∀ j, w2.frozen? ⟨w.heap.size, j, none⟩ = false := fun j => frozen_of_row _ _ j _ _ hrow
  have HR : Hid (w2.heap[w.heap.size]? = some (.cells H 34 (0, 0))) := hrow
  have HZ : Hid (w2.heap[w.heap.size + 1]? = some (.cells Z 42 (0, 0))) := hres
  have hs3 : w.heap.size < w2.heap.size := by omega
  have hs4 : w.heap.size + 1 < w2.heap.size := by omega
  clear hZ hk hrow hres hA hB hR h32 h33 h34 CL CD hs2
  go_wp2_with fail
  refine (CO _).mono ?_
  rintro e w' ⟨rfl, rfl⟩
  go_wp2_with fail
  refine (CN _).mono ?_
  rintro e w' ⟨rfl, rfl⟩
  go_wp2_with fail
  refine (CT _).mono ?_
  rintro e w' ⟨rfl, rfl⟩
  go_upto_region 69 with fail
  go_wp2_with (first | (refine wpList_load_row rfl 34 _ rfl _ rfl 34 _ (0, 0) _ (row_up (heap_setCell_same _ _ _ _ _ _ (heap_setCell_same _ _ _ _ _ _ HR.out)) _ _) Tryd.underlying34 rfl (info_hart hD.out.hH) ?_) | (refine wpList_build3 rfl 42 0 1 2 _ _ _ rfl _ _ _ rfl rfl rfl _ hD.out.built ?_) | (refine wpList_store_row rfl 42 _ _ rfl _ _ rfl rfl 42 Z (row_up ((heap_setCell_other _ _ _ _ (by simp)).trans ((heap_setCell_other _ _ _ _ (by simp)).trans HZ.out)) _ _) hD.out.info (HZS.out.trans hD.out.size.symm) hD.out.ones ?_))
  exact bodyPost_ret (v := .agg D) (results_cell_row Tryd.results18 _ _ _ 42 D (0, 0) _ rfl (setRow_heap _ _ _ _ _ _ (row_up ((heap_setCell_other _ _ _ _ (by simp)).trans ((heap_setCell_other _ _ _ _ (by simp)).trans HZ.out)) _ _)) Tryd.underlying42 rfl hD.out.info) rfl ⟨rfl, below_row ((((hb0.setCell (by simp) _).setCell (by simp) _).alloc (by simp; omega) _).alloc (by simp; omega) _) (by simp) _⟩

set_option maxRecDepth 20000 in
set_option maxHeartbeats 4000000 in
theorem qCall1 (H : Array Value) (pc : Int) (p : Option Addr) (n c : Nat) (w : World) (X I N NX TH A B R0 : Int) (rd s1 s2 : Nat) (D : Array Value) (T10 : Int) (h17 : H[17]? = some (.int .u32 1)) (h10 : H[10]? = some (.int .u32 T10))
    (hH : H.size = 35) (hO : Ones H) (h32 : H[32]? = some (.int .u32 pc)) (h33 : H[33]? = some (.int .i64 0)) (h34 : H[34]? = some (.int .i64 0))
    (hA : H[s1]? = some (.int .u32 A)) (hB : H[s2]? = some (.int .u32 B)) (hR : H[rd]? = some (.int .u32 R0)) (l1 : s1 < 32) (l2 : s2 < 32) (lr : rd < 32) (i0 : -2147483648 ≤ I) (i1 : I ≤ 2147483647)
    (CL : ∀ W, Below w.heap.size w W → Calls Tryd.prog 36 #[.slice p n c, .int .i64 13, .int .u32 pc] W fun e w' => e = .returned (.tuple #[.int .u32 X, .bool true]) ∧ w' = W)
    (CD : ∀ W, Calls Tryd.prog 12 #[.int .u32 X] W fun e w' => e = .returned (.tuple #[iv 47 rd s1 s2 I, .bool true]) ∧ Below W.heap.size W w')
    (CO : ∀ W, Calls Tryd.prog 38 #[.int .i64 I] W fun e w' => e = .returned (.int .u32 N) ∧ w' = W)
    (CN : ∀ W, Calls Tryd.prog 39 #[.int .u32 pc, .int .u32 4] W fun e w' => e = .returned (.int .u32 NX) ∧ w' = W)
    (CT : ∀ W, Calls Tryd.prog 39 #[.int .u32 A, .int .u32 N] W fun e w' => e = .returned (.int .u32 TH) ∧ w' = W)
    (hD : Hid (Did D (ccs pc NX 0 0 0 0 0 0 0 true T10) (H.setIfInBounds 32 (.int .u32 NX)) p n c)) :
    Calls Tryd.prog 18 #[.agg H, .slice p n c] w fun e w' => e = .returned (.agg D) ∧ Below w.heap.size w w' := by
  have HH : Hid (H.size = 35) := hH
  have HO : Hid (Ones H) := hO
  clear hH hO
  go_enter Tryd.func18, Tryd.ntmps18
  go_wp2_with fail
  refine (CL _ (((Below.refl _ _).alloc (Nat.le_refl _) _).alloc (by simp) _)).mono ?_
  rintro e w' ⟨rfl, rfl⟩
  go_wp2_with fail
  refine (CD _).mono ?_
  rintro e w2 ⟨rfl, hk⟩
  have hs2 := hk.size
  simp at hs2
  have hrow : w2.heap[w.heap.size]? = some (.cells H 34 (0, 0)) := (hk.block _ (by simp; omega)).trans (heap_alloc2_old _ _ _)
  obtain ⟨Z, hZ, hres⟩ : ∃ Z : Array Value, Z.size = 47 ∧ w2.heap[w.heap.size + 1]? = some (.cells Z 42 (0, 0)) := ⟨_, rfl, (hk.block _ (by simp)).trans (heap_alloc2_new _ _ _)⟩
  have HZS : Hid (Z.size = 47) := hZ
  have hb0 : Below w.heap.size w w2 := (((Below.refl _ _).alloc (Nat.le_refl _) _).alloc (by simp) _).trans (hk.mono (by simp; omega))
  have k32 := (cell_of_row w2 w.heap.size 32 _ _ _ hrow).trans h32
  have k33 := (cell_of_row w2 w.heap.size 33 _ _ _ hrow).trans h33
  have kA := (cell_of_row w2 w.heap.size s1 _ _ _ hrow).trans hA
  have kB := (cell_of_row w2 w.heap.size s2 _ _ _ hrow).trans hB
  have kR := (cell_of_row w2 w.heap.size rd _ _ _ hrow).trans hR
  have k17 := (cell_of_row w2 w.heap.size 17 _ _ _ hrow).trans h17
  have k10 := (cell_of_row w2 w.heap.size 10 _ _ _ hrow).trans h10
  have kz : ∀ j, w2.frozen? ⟨w.heap.size, j, none⟩ = false := fun j => frozen_of_row _ _ j _ _ hrow
  have HR : Hid (w2.heap[w.heap.size]? = some (.cells H 34 (0, 0))) := hrow
  have HZ : Hid (w2.heap[w.heap.size + 1]? = some (.cells Z 42 (0, 0))) := hres
  have hs3 : w.heap.size < w2.heap.size := by omega
  have hs4 : w.heap.size + 1 < w2.heap.size := by omega
  clear hZ hk hrow hres hA hB hR h32 h33 h34 CL CD hs2
  go_wp2_with fail
  refine (CO _).mono ?_
  rintro e w' ⟨rfl, rfl⟩
  go_wp2_with fail
  refine (CN _).mono ?_
  rintro e w' ⟨rfl, rfl⟩
  go_wp2_with fail
  refine (CT _).mono ?_
  rintro e w' ⟨rfl, rfl⟩
  go_upto_region 69 with fail
  go_wp2_with (first | (refine wpList_load_row rfl 34 _ rfl _ rfl 34 _ (0, 0) _ (row_up (heap_setCell_same _ _ _ _ _ _ HR.out) _ _) Tryd.underlying34 rfl (info_hart hD.out.hH) ?_) | (refine wpList_build3 rfl 42 0 1 2 _ _ _ rfl _ _ _ rfl rfl rfl _ hD.out.built ?_) | (refine wpList_store_row rfl 42 _ _ rfl _ _ rfl rfl 42 Z (row_up ((heap_setCell_other _ _ _ _ (by simp)).trans HZ.out) _ _) hD.out.info (HZS.out.trans hD.out.size.symm) hD.out.ones ?_))
  exact bodyPost_ret (v := .agg D) (results_cell_row Tryd.results18 _ _ _ 42 D (0, 0) _ rfl (setRow_heap _ _ _ _ _ _ (row_up ((heap_setCell_other _ _ _ _ (by simp)).trans HZ.out) _ _)) Tryd.underlying42 rfl hD.out.info) rfl ⟨rfl, below_row (((hb0.setCell (by simp) _).alloc (by simp; omega) _).alloc (by simp; omega) _) (by simp) _⟩

set_option maxRecDepth 20000 in
set_option maxHeartbeats 4000000 in
theorem qCallX (H : Array Value) (pc : Int) (p : Option Addr) (n c : Nat) (w : World) (X I N NX TH A B R0 : Int) (rd s1 s2 : Nat) (D : Array Value) (T10 T17 : Int) (h17 : H[17]? = some (.int .u32 T17)) (h10 : H[10]? = some (.int .u32 T10)) (n0 : (T17 == 0) = false) (n1 : (T17 == 1) = false)
    (hH : H.size = 35) (hO : Ones H) (h32 : H[32]? = some (.int .u32 pc)) (h33 : H[33]? = some (.int .i64 0)) (h34 : H[34]? = some (.int .i64 0))
    (hA : H[s1]? = some (.int .u32 A)) (hB : H[s2]? = some (.int .u32 B)) (hR : H[rd]? = some (.int .u32 R0)) (l1 : s1 < 32) (l2 : s2 < 32) (lr : rd < 32) (i0 : -2147483648 ≤ I) (i1 : I ≤ 2147483647)
    (CL : ∀ W, Below w.heap.size w W → Calls Tryd.prog 36 #[.slice p n c, .int .i64 13, .int .u32 pc] W fun e w' => e = .returned (.tuple #[.int .u32 X, .bool true]) ∧ w' = W)
    (CD : ∀ W, Calls Tryd.prog 12 #[.int .u32 X] W fun e w' => e = .returned (.tuple #[iv 47 rd s1 s2 I, .bool true]) ∧ Below W.heap.size W w')
    (CO : ∀ W, Calls Tryd.prog 38 #[.int .i64 I] W fun e w' => e = .returned (.int .u32 N) ∧ w' = W)
    (CN : ∀ W, Calls Tryd.prog 39 #[.int .u32 pc, .int .u32 4] W fun e w' => e = .returned (.int .u32 NX) ∧ w' = W)
    (CT : ∀ W, Calls Tryd.prog 39 #[.int .u32 A, .int .u32 N] W fun e w' => e = .returned (.int .u32 TH) ∧ w' = W)
    (CX : ∀ W, Calls Tryd.prog 37 #[.agg H, .slice p n c, .int .i64 5] W fun e w' => e = .returned (.agg D) ∧ Below W.heap.size W w')
    (hD : Hid (Did D (ccs pc pc 2 5 0 0 0 0 0 false 0) ((H.setIfInBounds 33 (.int .i64 2)).setIfInBounds 34 (.int .i64 5)) p n c)) :
    Calls Tryd.prog 18 #[.agg H, .slice p n c] w fun e w' => e = .returned (.agg D) ∧ Below w.heap.size w w' := by
  have HH : Hid (H.size = 35) := hH
  have HO : Hid (Ones H) := hO
  clear hH hO
  go_enter Tryd.func18, Tryd.ntmps18
  go_wp2_with fail
  refine (CL _ (((Below.refl _ _).alloc (Nat.le_refl _) _).alloc (by simp) _)).mono ?_
  rintro e w' ⟨rfl, rfl⟩
  go_wp2_with fail
  refine (CD _).mono ?_
  rintro e w2 ⟨rfl, hk⟩
  have hs2 := hk.size
  simp at hs2
  have hrow : w2.heap[w.heap.size]? = some (.cells H 34 (0, 0)) := (hk.block _ (by simp; omega)).trans (heap_alloc2_old _ _ _)
  obtain ⟨Z, hZ, hres⟩ : ∃ Z : Array Value, Z.size = 47 ∧ w2.heap[w.heap.size + 1]? = some (.cells Z 42 (0, 0)) := ⟨_, rfl, (hk.block _ (by simp)).trans (heap_alloc2_new _ _ _)⟩
  have HZS : Hid (Z.size = 47) := hZ
  have hb0 : Below w.heap.size w w2 := (((Below.refl _ _).alloc (Nat.le_refl _) _).alloc (by simp) _).trans (hk.mono (by simp; omega))
  have k32 := (cell_of_row w2 w.heap.size 32 _ _ _ hrow).trans h32
  have k33 := (cell_of_row w2 w.heap.size 33 _ _ _ hrow).trans h33
  have kA := (cell_of_row w2 w.heap.size s1 _ _ _ hrow).trans hA
  have kB := (cell_of_row w2 w.heap.size s2 _ _ _ hrow).trans hB
  have kR := (cell_of_row w2 w.heap.size rd _ _ _ hrow).trans hR
  have k17 := (cell_of_row w2 w.heap.size 17 _ _ _ hrow).trans h17
  have k10 := (cell_of_row w2 w.heap.size 10 _ _ _ hrow).trans h10
  have kz : ∀ j, w2.frozen? ⟨w.heap.size, j, none⟩ = false := fun j => frozen_of_row _ _ j _ _ hrow
  have HR : Hid (w2.heap[w.heap.size]? = some (.cells H 34 (0, 0))) := hrow
  have HZ : Hid (w2.heap[w.heap.size + 1]? = some (.cells Z 42 (0, 0))) := hres
  have hs3 : w.heap.size < w2.heap.size := by omega
  have hs4 : w.heap.size + 1 < w2.heap.size := by omega
  clear hZ hk hrow hres hA hB hR h32 h33 h34 CL CD hs2
  go_wp2_with fail
  refine (CO _).mono ?_
  rintro e w' ⟨rfl, rfl⟩
  go_wp2_with fail
  refine (CN _).mono ?_
  rintro e w' ⟨rfl, rfl⟩
  go_wp2_with fail
  refine (CT _).mono ?_
  rintro e w' ⟨rfl, rfl⟩
  go_upto_region 59 with fail
  go_wp2_with (refine wpList_load_row rfl 34 _ rfl _ rfl 34 _ (0, 0) _ (row_up HR.out _ _) Tryd.underlying34 rfl (info_hart HH.out) ?_)
  refine (CX _).mono ?_
  rintro e w3 ⟨rfl, hk3⟩
  have HZ3 : Hid (w3.heap[w.heap.size + 1]? = some (.cells Z 42 (0, 0))) := (hk3.block _ (by simp; omega)).trans (row_up HZ.out _ _)
  have hb3 : Below w.heap.size w w3 := ((hb0.alloc (by omega) _).alloc (by simp; omega) _).trans (hk3.mono (by simp; omega))
  clear hk3
  go_wp2_with (refine wpList_store_row rfl 42 _ _ rfl _ _ rfl rfl 42 Z (HZ3.out) hD.out.info (HZS.out.trans hD.out.size.symm) hD.out.ones ?_)
  exact bodyPost_ret (v := .agg D) (results_cell_row Tryd.results18 _ _ _ 42 D (0, 0) _ rfl (setRow_heap _ _ _ _ _ _ (HZ3.out)) Tryd.underlying42 rfl hD.out.info) rfl ⟨rfl, below_row (hb3) (by simp) _⟩

set_option maxRecDepth 20000 in
set_option maxHeartbeats 4000000 in
theorem qBreak (H : Array Value) (pc : Int) (p : Option Addr) (n c : Nat) (w : World) (X I N NX TH A B R0 : Int) (rd s1 s2 : Nat) (D : Array Value)
    (hH : H.size = 35) (hO : Ones H) (h32 : H[32]? = some (.int .u32 pc)) (h33 : H[33]? = some (.int .i64 0)) (h34 : H[34]? = some (.int .i64 0))
    (hA : H[s1]? = some (.int .u32 A)) (hB : H[s2]? = some (.int .u32 B)) (hR : H[rd]? = some (.int .u32 R0)) (l1 : s1 < 32) (l2 : s2 < 32) (lr : rd < 32) (i0 : -2147483648 ≤ I) (i1 : I ≤ 2147483647)
    (CL : ∀ W, Below w.heap.size w W → Calls Tryd.prog 36 #[.slice p n c, .int .i64 13, .int .u32 pc] W fun e w' => e = .returned (.tuple #[.int .u32 X, .bool true]) ∧ w' = W)
    (CD : ∀ W, Calls Tryd.prog 12 #[.int .u32 X] W fun e w' => e = .returned (.tuple #[iv 48 rd s1 s2 I, .bool true]) ∧ Below W.heap.size W w')
    (CO : ∀ W, Calls Tryd.prog 38 #[.int .i64 I] W fun e w' => e = .returned (.int .u32 N) ∧ w' = W)
    (CN : ∀ W, Calls Tryd.prog 39 #[.int .u32 pc, .int .u32 4] W fun e w' => e = .returned (.int .u32 NX) ∧ w' = W)
    (CT : ∀ W, Calls Tryd.prog 39 #[.int .u32 A, .int .u32 N] W fun e w' => e = .returned (.int .u32 TH) ∧ w' = W)
    (CX : ∀ W, Calls Tryd.prog 37 #[.agg H, .slice p n c, .int .i64 6] W fun e w' => e = .returned (.agg D) ∧ Below W.heap.size W w')
    (hD : Hid (Did D (ccs pc pc 2 6 0 0 0 0 0 false 0) ((H.setIfInBounds 33 (.int .i64 2)).setIfInBounds 34 (.int .i64 6)) p n c)) :
    Calls Tryd.prog 18 #[.agg H, .slice p n c] w fun e w' => e = .returned (.agg D) ∧ Below w.heap.size w w' := by
  have HH : Hid (H.size = 35) := hH
  have HO : Hid (Ones H) := hO
  clear hH hO
  go_enter Tryd.func18, Tryd.ntmps18
  go_wp2_with fail
  refine (CL _ (((Below.refl _ _).alloc (Nat.le_refl _) _).alloc (by simp) _)).mono ?_
  rintro e w' ⟨rfl, rfl⟩
  go_wp2_with fail
  refine (CD _).mono ?_
  rintro e w2 ⟨rfl, hk⟩
  have hs2 := hk.size
  simp at hs2
  have hrow : w2.heap[w.heap.size]? = some (.cells H 34 (0, 0)) := (hk.block _ (by simp; omega)).trans (heap_alloc2_old _ _ _)
  obtain ⟨Z, hZ, hres⟩ : ∃ Z : Array Value, Z.size = 47 ∧ w2.heap[w.heap.size + 1]? = some (.cells Z 42 (0, 0)) := ⟨_, rfl, (hk.block _ (by simp)).trans (heap_alloc2_new _ _ _)⟩
  have HZS : Hid (Z.size = 47) := hZ
  have hb0 : Below w.heap.size w w2 := (((Below.refl _ _).alloc (Nat.le_refl _) _).alloc (by simp) _).trans (hk.mono (by simp; omega))
  have k32 := (cell_of_row w2 w.heap.size 32 _ _ _ hrow).trans h32
  have k33 := (cell_of_row w2 w.heap.size 33 _ _ _ hrow).trans h33
  have kA := (cell_of_row w2 w.heap.size s1 _ _ _ hrow).trans hA
  have kB := (cell_of_row w2 w.heap.size s2 _ _ _ hrow).trans hB
  have kR := (cell_of_row w2 w.heap.size rd _ _ _ hrow).trans hR
  have kz : ∀ j, w2.frozen? ⟨w.heap.size, j, none⟩ = false := fun j => frozen_of_row _ _ j _ _ hrow
  have HR : Hid (w2.heap[w.heap.size]? = some (.cells H 34 (0, 0))) := hrow
  have HZ : Hid (w2.heap[w.heap.size + 1]? = some (.cells Z 42 (0, 0))) := hres
  have hs3 : w.heap.size < w2.heap.size := by omega
  have hs4 : w.heap.size + 1 < w2.heap.size := by omega
  clear hZ hk hrow hres hA hB hR h32 h33 h34 CL CD hs2
  go_wp2_with fail
  refine (CO _).mono ?_
  rintro e w' ⟨rfl, rfl⟩
  go_wp2_with fail
  refine (CN _).mono ?_
  rintro e w' ⟨rfl, rfl⟩
  go_wp2_with fail
  refine (CT _).mono ?_
  rintro e w' ⟨rfl, rfl⟩
  go_upto_region 61 with fail
  go_wp2_with (refine wpList_load_row rfl 34 _ rfl _ rfl 34 _ (0, 0) _ (row_up HR.out _ _) Tryd.underlying34 rfl (info_hart HH.out) ?_)
  refine (CX _).mono ?_
  rintro e w3 ⟨rfl, hk3⟩
  have HZ3 : Hid (w3.heap[w.heap.size + 1]? = some (.cells Z 42 (0, 0))) := (hk3.block _ (by simp; omega)).trans (row_up HZ.out _ _)
  have hb3 : Below w.heap.size w w3 := ((hb0.alloc (by omega) _).alloc (by simp; omega) _).trans (hk3.mono (by simp; omega))
  clear hk3
  go_wp2_with (refine wpList_store_row rfl 42 _ _ rfl _ _ rfl rfl 42 Z (HZ3.out) hD.out.info (HZS.out.trans hD.out.size.symm) hD.out.ones ?_)
  exact bodyPost_ret (v := .agg D) (results_cell_row Tryd.results18 _ _ _ 42 D (0, 0) _ rfl (setRow_heap _ _ _ _ _ _ (HZ3.out)) Tryd.underlying42 rfl hD.out.info) rfl ⟨rfl, below_row (hb3) (by simp) _⟩

end Go.Proofs.YtpiohehijkpghaaDoor
