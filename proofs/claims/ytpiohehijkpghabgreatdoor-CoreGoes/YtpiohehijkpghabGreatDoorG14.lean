/- The program's Do, of the other kinds: walked. -/
import Derived.Test.YtpiohehijkpghabGreatDoorG13
import Derived.Test.YtpiohehijkpghabGreatDoorG01
set_option maxRecDepth 20000
set_option maxHeartbeats 4000000
namespace Go.Proofs.YtpiohehijkpghabGreatDoor
open Go.RowKit
open Hy
set_option linter.unusedVariables false
set_option linter.unusedSimpArgs false
theorem hdLoad11 (pc:Int) (p:Option Addr) (n c:Nat) (w:World) (I A B V:Int) (ok:Bool) (rd s1 s2:Nat) (C:Array Value) (hC:Hid (C.size=11∧Ones C))
  (CM:∀W,Below w.heap.size w W→Calls Tryz.prog 94 #[.slice p n c,.int .i64 11,.int .u32 ((A+I)%4294967296)] W fun e w'=>e=.returned (.tuple #[.int .u32 V,.bool ok])∧w'=W)
  (CF:∀W,Calls Tryz.prog 73 #[iv 11 rd s1 s2 I,.int .u32 pc,.int .u32 V,.bool ok] W fun e w'=>e=.returned (.agg C)∧Below W.heap.size W w') (a0:0≤A) (a1:A≤4294967295):
  Calls Tryz.prog 75 #[iv 11 rd s1 s2 I,.int .u32 pc,.int .u32 A,.int .u32 B,.slice p n c] w fun e w'=>e=.returned (.agg C)∧Below w.heap.size w w':=by
 go_enter Tryz.func75,Tryz.ntmps75
 go_wp2_with fail
 refine(CM _ (((Below.refl _ _).alloc (Nat.le_refl _) _).alloc (by simp) _)).mono ?_
 rintro e w' ⟨rfl,rfl⟩
 go_wp2_with fail
 refine(CF _).mono ?_
 rintro e w3 ⟨rfl,hk3⟩
 have HZ3:Hid (w3.heap[w.heap.size+1]?=some (.cells (ccs 0 0 0 0 0 0 0 0 0 false 0) 64 (0,0))):=(hk3.block _ (by simp)).trans (heap_alloc2_new _ _ _)
 have hb3:Below w.heap.size w w3:=(((Below.refl _ _).alloc (Nat.le_refl _) _).alloc (by simp) _).trans (hk3.mono (by simp;omega))
 clear hk3
 go_wp2_with(refine wpList_store_row rfl 64 _ _ rfl _ _ rfl rfl 64 (ccs 0 0 0 0 0 0 0 0 0 false 0) HZ3.out (size_commit.trans (congrArg some hC.out.1.symm)) hC.out.1.symm hC.out.2 ?_)
 exact bodyPost_ret (v:=.agg C) (results_cell_row Tryz.results75 _ _ _ 64 _ (0,0) _ rfl (setRow_heap _ _ _ _ _ _ HZ3.out) Tryz.underlying64 rfl (size_commit.trans (congrArg some hC.out.1.symm))) rfl ⟨rfl,below_row hb3 (by omega) _⟩
theorem hdLoad12 (pc:Int) (p:Option Addr) (n c:Nat) (w:World) (I A B V:Int) (ok:Bool) (rd s1 s2:Nat) (C:Array Value) (hC:Hid (C.size=11∧Ones C))
  (CM:∀W,Below w.heap.size w W→Calls Tryz.prog 94 #[.slice p n c,.int .i64 12,.int .u32 ((A+I)%4294967296)] W fun e w'=>e=.returned (.tuple #[.int .u32 V,.bool ok])∧w'=W)
  (CF:∀W,Calls Tryz.prog 73 #[iv 12 rd s1 s2 I,.int .u32 pc,.int .u32 V,.bool ok] W fun e w'=>e=.returned (.agg C)∧Below W.heap.size W w') (a0:0≤A) (a1:A≤4294967295):
  Calls Tryz.prog 75 #[iv 12 rd s1 s2 I,.int .u32 pc,.int .u32 A,.int .u32 B,.slice p n c] w fun e w'=>e=.returned (.agg C)∧Below w.heap.size w w':=by
 go_enter Tryz.func75,Tryz.ntmps75
 go_wp2_with fail
 refine(CM _ (((Below.refl _ _).alloc (Nat.le_refl _) _).alloc (by simp) _)).mono ?_
 rintro e w' ⟨rfl,rfl⟩
 go_wp2_with fail
 refine(CF _).mono ?_
 rintro e w3 ⟨rfl,hk3⟩
 have HZ3:Hid (w3.heap[w.heap.size+1]?=some (.cells (ccs 0 0 0 0 0 0 0 0 0 false 0) 64 (0,0))):=(hk3.block _ (by simp)).trans (heap_alloc2_new _ _ _)
 have hb3:Below w.heap.size w w3:=(((Below.refl _ _).alloc (Nat.le_refl _) _).alloc (by simp) _).trans (hk3.mono (by simp;omega))
 clear hk3
 go_wp2_with(refine wpList_store_row rfl 64 _ _ rfl _ _ rfl rfl 64 (ccs 0 0 0 0 0 0 0 0 0 false 0) HZ3.out (size_commit.trans (congrArg some hC.out.1.symm)) hC.out.1.symm hC.out.2 ?_)
 exact bodyPost_ret (v:=.agg C) (results_cell_row Tryz.results75 _ _ _ 64 _ (0,0) _ rfl (setRow_heap _ _ _ _ _ _ HZ3.out) Tryz.underlying64 rfl (size_commit.trans (congrArg some hC.out.1.symm))) rfl ⟨rfl,below_row hb3 (by omega) _⟩
theorem hdLoad13 (pc:Int) (p:Option Addr) (n c:Nat) (w:World) (I A B V:Int) (ok:Bool) (rd s1 s2:Nat) (C:Array Value) (hC:Hid (C.size=11∧Ones C))
  (CM:∀W,Below w.heap.size w W→Calls Tryz.prog 94 #[.slice p n c,.int .i64 13,.int .u32 ((A+I)%4294967296)] W fun e w'=>e=.returned (.tuple #[.int .u32 V,.bool ok])∧w'=W)
  (CF:∀W,Calls Tryz.prog 73 #[iv 13 rd s1 s2 I,.int .u32 pc,.int .u32 V,.bool ok] W fun e w'=>e=.returned (.agg C)∧Below W.heap.size W w') (a0:0≤A) (a1:A≤4294967295):
  Calls Tryz.prog 75 #[iv 13 rd s1 s2 I,.int .u32 pc,.int .u32 A,.int .u32 B,.slice p n c] w fun e w'=>e=.returned (.agg C)∧Below w.heap.size w w':=by
 go_enter Tryz.func75,Tryz.ntmps75
 go_wp2_with fail
 refine(CM _ (((Below.refl _ _).alloc (Nat.le_refl _) _).alloc (by simp) _)).mono ?_
 rintro e w' ⟨rfl,rfl⟩
 go_wp2_with fail
 refine(CF _).mono ?_
 rintro e w3 ⟨rfl,hk3⟩
 have HZ3:Hid (w3.heap[w.heap.size+1]?=some (.cells (ccs 0 0 0 0 0 0 0 0 0 false 0) 64 (0,0))):=(hk3.block _ (by simp)).trans (heap_alloc2_new _ _ _)
 have hb3:Below w.heap.size w w3:=(((Below.refl _ _).alloc (Nat.le_refl _) _).alloc (by simp) _).trans (hk3.mono (by simp;omega))
 clear hk3
 go_wp2_with(refine wpList_store_row rfl 64 _ _ rfl _ _ rfl rfl 64 (ccs 0 0 0 0 0 0 0 0 0 false 0) HZ3.out (size_commit.trans (congrArg some hC.out.1.symm)) hC.out.1.symm hC.out.2 ?_)
 exact bodyPost_ret (v:=.agg C) (results_cell_row Tryz.results75 _ _ _ 64 _ (0,0) _ rfl (setRow_heap _ _ _ _ _ _ HZ3.out) Tryz.underlying64 rfl (size_commit.trans (congrArg some hC.out.1.symm))) rfl ⟨rfl,below_row hb3 (by omega) _⟩
theorem hdLoad14 (pc:Int) (p:Option Addr) (n c:Nat) (w:World) (I A B V:Int) (ok:Bool) (rd s1 s2:Nat) (C:Array Value) (hC:Hid (C.size=11∧Ones C))
  (CM:∀W,Below w.heap.size w W→Calls Tryz.prog 94 #[.slice p n c,.int .i64 14,.int .u32 ((A+I)%4294967296)] W fun e w'=>e=.returned (.tuple #[.int .u32 V,.bool ok])∧w'=W)
  (CF:∀W,Calls Tryz.prog 73 #[iv 14 rd s1 s2 I,.int .u32 pc,.int .u32 V,.bool ok] W fun e w'=>e=.returned (.agg C)∧Below W.heap.size W w') (a0:0≤A) (a1:A≤4294967295):
  Calls Tryz.prog 75 #[iv 14 rd s1 s2 I,.int .u32 pc,.int .u32 A,.int .u32 B,.slice p n c] w fun e w'=>e=.returned (.agg C)∧Below w.heap.size w w':=by
 go_enter Tryz.func75,Tryz.ntmps75
 go_wp2_with fail
 refine(CM _ (((Below.refl _ _).alloc (Nat.le_refl _) _).alloc (by simp) _)).mono ?_
 rintro e w' ⟨rfl,rfl⟩
 go_wp2_with fail
 refine(CF _).mono ?_
 rintro e w3 ⟨rfl,hk3⟩
 have HZ3:Hid (w3.heap[w.heap.size+1]?=some (.cells (ccs 0 0 0 0 0 0 0 0 0 false 0) 64 (0,0))):=(hk3.block _ (by simp)).trans (heap_alloc2_new _ _ _)
 have hb3:Below w.heap.size w w3:=(((Below.refl _ _).alloc (Nat.le_refl _) _).alloc (by simp) _).trans (hk3.mono (by simp;omega))
 clear hk3
 go_wp2_with(refine wpList_store_row rfl 64 _ _ rfl _ _ rfl rfl 64 (ccs 0 0 0 0 0 0 0 0 0 false 0) HZ3.out (size_commit.trans (congrArg some hC.out.1.symm)) hC.out.1.symm hC.out.2 ?_)
 exact bodyPost_ret (v:=.agg C) (results_cell_row Tryz.results75 _ _ _ 64 _ (0,0) _ rfl (setRow_heap _ _ _ _ _ _ HZ3.out) Tryz.underlying64 rfl (size_commit.trans (congrArg some hC.out.1.symm))) rfl ⟨rfl,below_row hb3 (by omega) _⟩
theorem hdLoad15 (pc:Int) (p:Option Addr) (n c:Nat) (w:World) (I A B V:Int) (ok:Bool) (rd s1 s2:Nat) (C:Array Value) (hC:Hid (C.size=11∧Ones C))
  (CM:∀W,Below w.heap.size w W→Calls Tryz.prog 94 #[.slice p n c,.int .i64 15,.int .u32 ((A+I)%4294967296)] W fun e w'=>e=.returned (.tuple #[.int .u32 V,.bool ok])∧w'=W)
  (CF:∀W,Calls Tryz.prog 73 #[iv 15 rd s1 s2 I,.int .u32 pc,.int .u32 V,.bool ok] W fun e w'=>e=.returned (.agg C)∧Below W.heap.size W w') (a0:0≤A) (a1:A≤4294967295):
  Calls Tryz.prog 75 #[iv 15 rd s1 s2 I,.int .u32 pc,.int .u32 A,.int .u32 B,.slice p n c] w fun e w'=>e=.returned (.agg C)∧Below w.heap.size w w':=by
 go_enter Tryz.func75,Tryz.ntmps75
 go_wp2_with fail
 refine(CM _ (((Below.refl _ _).alloc (Nat.le_refl _) _).alloc (by simp) _)).mono ?_
 rintro e w' ⟨rfl,rfl⟩
 go_wp2_with fail
 refine(CF _).mono ?_
 rintro e w3 ⟨rfl,hk3⟩
 have HZ3:Hid (w3.heap[w.heap.size+1]?=some (.cells (ccs 0 0 0 0 0 0 0 0 0 false 0) 64 (0,0))):=(hk3.block _ (by simp)).trans (heap_alloc2_new _ _ _)
 have hb3:Below w.heap.size w w3:=(((Below.refl _ _).alloc (Nat.le_refl _) _).alloc (by simp) _).trans (hk3.mono (by simp;omega))
 clear hk3
 go_wp2_with(refine wpList_store_row rfl 64 _ _ rfl _ _ rfl rfl 64 (ccs 0 0 0 0 0 0 0 0 0 false 0) HZ3.out (size_commit.trans (congrArg some hC.out.1.symm)) hC.out.1.symm hC.out.2 ?_)
 exact bodyPost_ret (v:=.agg C) (results_cell_row Tryz.results75 _ _ _ 64 _ (0,0) _ rfl (setRow_heap _ _ _ _ _ _ HZ3.out) Tryz.underlying64 rfl (size_commit.trans (congrArg some hC.out.1.symm))) rfl ⟨rfl,below_row hb3 (by omega) _⟩
theorem hdStore16 (pc:Int) (p:Option Addr) (n c:Nat) (w:World) (I A B:Int) (rd s1 s2:Nat) (C:Array Value) (hC:Hid (C.size=11∧Ones C))
  (CF:∀W,Below w.heap.size w W→Calls Tryz.prog 108 #[iv 16 rd s1 s2 I,.int .u32 pc,.int .u32 A,.int .u32 B,.slice p n c] W fun e w'=>e=.returned (.agg C)∧Below W.heap.size W w'):
  Calls Tryz.prog 75 #[iv 16 rd s1 s2 I,.int .u32 pc,.int .u32 A,.int .u32 B,.slice p n c] w fun e w'=>e=.returned (.agg C)∧Below w.heap.size w w':=by
 go_enter Tryz.func75,Tryz.ntmps75
 go_wp2_with fail
 refine(CF _ (((Below.refl _ _).alloc (Nat.le_refl _) _).alloc (by simp) _)).mono ?_
 rintro e w3 ⟨rfl,hk3⟩
 have HZ3:Hid (w3.heap[w.heap.size+1]?=some (.cells (ccs 0 0 0 0 0 0 0 0 0 false 0) 64 (0,0))):=(hk3.block _ (by simp)).trans (heap_alloc2_new _ _ _)
 have hb3:Below w.heap.size w w3:=(((Below.refl _ _).alloc (Nat.le_refl _) _).alloc (by simp) _).trans (hk3.mono (by simp;omega))
 clear hk3
 go_wp2_with(refine wpList_store_row rfl 64 _ _ rfl _ _ rfl rfl 64 (ccs 0 0 0 0 0 0 0 0 0 false 0) HZ3.out (size_commit.trans (congrArg some hC.out.1.symm)) hC.out.1.symm hC.out.2 ?_)
 exact bodyPost_ret (v:=.agg C) (results_cell_row Tryz.results75 _ _ _ 64 _ (0,0) _ rfl (setRow_heap _ _ _ _ _ _ HZ3.out) Tryz.underlying64 rfl (size_commit.trans (congrArg some hC.out.1.symm))) rfl ⟨rfl,below_row hb3 (by omega) _⟩
theorem hdStore17 (pc:Int) (p:Option Addr) (n c:Nat) (w:World) (I A B:Int) (rd s1 s2:Nat) (C:Array Value) (hC:Hid (C.size=11∧Ones C))
  (CF:∀W,Below w.heap.size w W→Calls Tryz.prog 108 #[iv 17 rd s1 s2 I,.int .u32 pc,.int .u32 A,.int .u32 B,.slice p n c] W fun e w'=>e=.returned (.agg C)∧Below W.heap.size W w'):
  Calls Tryz.prog 75 #[iv 17 rd s1 s2 I,.int .u32 pc,.int .u32 A,.int .u32 B,.slice p n c] w fun e w'=>e=.returned (.agg C)∧Below w.heap.size w w':=by
 go_enter Tryz.func75,Tryz.ntmps75
 go_wp2_with fail
 refine(CF _ (((Below.refl _ _).alloc (Nat.le_refl _) _).alloc (by simp) _)).mono ?_
 rintro e w3 ⟨rfl,hk3⟩
 have HZ3:Hid (w3.heap[w.heap.size+1]?=some (.cells (ccs 0 0 0 0 0 0 0 0 0 false 0) 64 (0,0))):=(hk3.block _ (by simp)).trans (heap_alloc2_new _ _ _)
 have hb3:Below w.heap.size w w3:=(((Below.refl _ _).alloc (Nat.le_refl _) _).alloc (by simp) _).trans (hk3.mono (by simp;omega))
 clear hk3
 go_wp2_with(refine wpList_store_row rfl 64 _ _ rfl _ _ rfl rfl 64 (ccs 0 0 0 0 0 0 0 0 0 false 0) HZ3.out (size_commit.trans (congrArg some hC.out.1.symm)) hC.out.1.symm hC.out.2 ?_)
 exact bodyPost_ret (v:=.agg C) (results_cell_row Tryz.results75 _ _ _ 64 _ (0,0) _ rfl (setRow_heap _ _ _ _ _ _ HZ3.out) Tryz.underlying64 rfl (size_commit.trans (congrArg some hC.out.1.symm))) rfl ⟨rfl,below_row hb3 (by omega) _⟩
theorem hdStore18 (pc:Int) (p:Option Addr) (n c:Nat) (w:World) (I A B:Int) (rd s1 s2:Nat) (C:Array Value) (hC:Hid (C.size=11∧Ones C))
  (CF:∀W,Below w.heap.size w W→Calls Tryz.prog 108 #[iv 18 rd s1 s2 I,.int .u32 pc,.int .u32 A,.int .u32 B,.slice p n c] W fun e w'=>e=.returned (.agg C)∧Below W.heap.size W w'):
  Calls Tryz.prog 75 #[iv 18 rd s1 s2 I,.int .u32 pc,.int .u32 A,.int .u32 B,.slice p n c] w fun e w'=>e=.returned (.agg C)∧Below w.heap.size w w':=by
 go_enter Tryz.func75,Tryz.ntmps75
 go_wp2_with fail
 refine(CF _ (((Below.refl _ _).alloc (Nat.le_refl _) _).alloc (by simp) _)).mono ?_
 rintro e w3 ⟨rfl,hk3⟩
 have HZ3:Hid (w3.heap[w.heap.size+1]?=some (.cells (ccs 0 0 0 0 0 0 0 0 0 false 0) 64 (0,0))):=(hk3.block _ (by simp)).trans (heap_alloc2_new _ _ _)
 have hb3:Below w.heap.size w w3:=(((Below.refl _ _).alloc (Nat.le_refl _) _).alloc (by simp) _).trans (hk3.mono (by simp;omega))
 clear hk3
 go_wp2_with(refine wpList_store_row rfl 64 _ _ rfl _ _ rfl rfl 64 (ccs 0 0 0 0 0 0 0 0 0 false 0) HZ3.out (size_commit.trans (congrArg some hC.out.1.symm)) hC.out.1.symm hC.out.2 ?_)
 exact bodyPost_ret (v:=.agg C) (results_cell_row Tryz.results75 _ _ _ 64 _ (0,0) _ rfl (setRow_heap _ _ _ _ _ _ HZ3.out) Tryz.underlying64 rfl (size_commit.trans (congrArg some hC.out.1.symm))) rfl ⟨rfl,below_row hb3 (by omega) _⟩
theorem hdFence (pc:Int) (p:Option Addr) (n c:Nat) (w:World) (I A B:Int) (rd s1 s2:Nat) (C:Array Value) (hC:Hid (C.size=11∧Ones C))
  (CF:∀W,Below w.heap.size w W→Calls Tryz.prog 107 #[.int .u32 pc] W fun e w'=>e=.returned (.agg C)∧Below W.heap.size W w'):
  Calls Tryz.prog 75 #[iv 46 rd s1 s2 I,.int .u32 pc,.int .u32 A,.int .u32 B,.slice p n c] w fun e w'=>e=.returned (.agg C)∧Below w.heap.size w w':=by
 go_enter Tryz.func75,Tryz.ntmps75
 go_wp2_with fail
 refine(CF _ (((Below.refl _ _).alloc (Nat.le_refl _) _).alloc (by simp) _)).mono ?_
 rintro e w3 ⟨rfl,hk3⟩
 have HZ3:Hid (w3.heap[w.heap.size+1]?=some (.cells (ccs 0 0 0 0 0 0 0 0 0 false 0) 64 (0,0))):=(hk3.block _ (by simp)).trans (heap_alloc2_new _ _ _)
 have hb3:Below w.heap.size w w3:=(((Below.refl _ _).alloc (Nat.le_refl _) _).alloc (by simp) _).trans (hk3.mono (by simp;omega))
 clear hk3
 go_wp2_with(refine wpList_store_row rfl 64 _ _ rfl _ _ rfl rfl 64 (ccs 0 0 0 0 0 0 0 0 0 false 0) HZ3.out (size_commit.trans (congrArg some hC.out.1.symm)) hC.out.1.symm hC.out.2 ?_)
 exact bodyPost_ret (v:=.agg C) (results_cell_row Tryz.results75 _ _ _ 64 _ (0,0) _ rfl (setRow_heap _ _ _ _ _ _ HZ3.out) Tryz.underlying64 rfl (size_commit.trans (congrArg some hC.out.1.symm))) rfl ⟨rfl,below_row hb3 (by omega) _⟩
theorem hdCall (pc:Int) (p:Option Addr) (n c:Nat) (w:World) (I A B:Int) (rd s1 s2:Nat) (C:Array Value) (hC:Hid (C.size=11∧Ones C))
  (CF:∀W,Below w.heap.size w W→Calls Tryz.prog 109 #[.int .u32 pc,.int .u32 A,.int .u32 B] W fun e w'=>e=.returned (.agg C)∧Below W.heap.size W w'):
  Calls Tryz.prog 75 #[iv 47 rd s1 s2 I,.int .u32 pc,.int .u32 A,.int .u32 B,.slice p n c] w fun e w'=>e=.returned (.agg C)∧Below w.heap.size w w':=by
 go_enter Tryz.func75,Tryz.ntmps75
 go_wp2_with fail
 refine(CF _ (((Below.refl _ _).alloc (Nat.le_refl _) _).alloc (by simp) _)).mono ?_
 rintro e w3 ⟨rfl,hk3⟩
 have HZ3:Hid (w3.heap[w.heap.size+1]?=some (.cells (ccs 0 0 0 0 0 0 0 0 0 false 0) 64 (0,0))):=(hk3.block _ (by simp)).trans (heap_alloc2_new _ _ _)
 have hb3:Below w.heap.size w w3:=(((Below.refl _ _).alloc (Nat.le_refl _) _).alloc (by simp) _).trans (hk3.mono (by simp;omega))
 clear hk3
 go_wp2_with(refine wpList_store_row rfl 64 _ _ rfl _ _ rfl rfl 64 (ccs 0 0 0 0 0 0 0 0 0 false 0) HZ3.out (size_commit.trans (congrArg some hC.out.1.symm)) hC.out.1.symm hC.out.2 ?_)
 exact bodyPost_ret (v:=.agg C) (results_cell_row Tryz.results75 _ _ _ 64 _ (0,0) _ rfl (setRow_heap _ _ _ _ _ _ HZ3.out) Tryz.underlying64 rfl (size_commit.trans (congrArg some hC.out.1.symm))) rfl ⟨rfl,below_row hb3 (by omega) _⟩
theorem hdBreak (pc:Int) (p:Option Addr) (n c:Nat) (w:World) (I A B:Int) (rd s1 s2:Nat) (C:Array Value) (hC:Hid (C.size=11∧Ones C))
  (CF:∀W,Below w.heap.size w W→Calls Tryz.prog 105 #[.int .u32 pc,.int .i64 6] W fun e w'=>e=.returned (.agg C)∧Below W.heap.size W w'):
  Calls Tryz.prog 75 #[iv 48 rd s1 s2 I,.int .u32 pc,.int .u32 A,.int .u32 B,.slice p n c] w fun e w'=>e=.returned (.agg C)∧Below w.heap.size w w':=by
 go_enter Tryz.func75,Tryz.ntmps75
 go_wp2_with fail
 refine(CF _ (((Below.refl _ _).alloc (Nat.le_refl _) _).alloc (by simp) _)).mono ?_
 rintro e w3 ⟨rfl,hk3⟩
 have HZ3:Hid (w3.heap[w.heap.size+1]?=some (.cells (ccs 0 0 0 0 0 0 0 0 0 false 0) 64 (0,0))):=(hk3.block _ (by simp)).trans (heap_alloc2_new _ _ _)
 have hb3:Below w.heap.size w w3:=(((Below.refl _ _).alloc (Nat.le_refl _) _).alloc (by simp) _).trans (hk3.mono (by simp;omega))
 clear hk3
 go_wp2_with(refine wpList_store_row rfl 64 _ _ rfl _ _ rfl rfl 64 (ccs 0 0 0 0 0 0 0 0 0 false 0) HZ3.out (size_commit.trans (congrArg some hC.out.1.symm)) hC.out.1.symm hC.out.2 ?_)
 exact bodyPost_ret (v:=.agg C) (results_cell_row Tryz.results75 _ _ _ 64 _ (0,0) _ rfl (setRow_heap _ _ _ _ _ _ HZ3.out) Tryz.underlying64 rfl (size_commit.trans (congrArg some hC.out.1.symm))) rfl ⟨rfl,below_row hb3 (by omega) _⟩
theorem at_cell {w2s bs:Nat} {W w:World} {b j:Nat} {v:Value} (h:∀b,b<w2s→b≠bs→w.heap[b]?=W.heap[b]?) (hb:b<w2s) (hn:b≠bs) (hv:W.cell? ⟨b,j,none⟩=some v):w.cell? ⟨b,j,none⟩=some v:=
 (World.cell?_of_block (w:=W) (a:=⟨b,j,none⟩) (h b hb hn)).trans hv
theorem hdRest (pc:Int) (p:Option Addr) (n c:Nat) (w:World) (I A B M NX V:Int) (rd s1 s2:Nat) (C:Array Value) (hC:Hid (C.size=11∧Ones C)) (h1:1≤M) (hM:M<11∨18<M) (hM2:M<46)
  (CX:∀W,Below w.heap.size w W→Calls Tryz.prog 110 #[iv M rd s1 s2 I,.int .u32 pc,.int .u32 A,.int .u32 B] W fun e w'=>e=.returned (.int .u32 NX)∧Below W.heap.size W w')
  (CR:∀W,Below w.heap.size w W→Calls Tryz.prog 111 #[iv M rd s1 s2 I,.int .u32 pc,.int .u32 A,.int .u32 B] W fun e w'=>e=.returned (.int .u32 V)∧Below W.heap.size W w')
  (CG:∀W,Calls Tryz.prog 106 #[cv pc NX 0 0 0 0 0 0 0 false 0,.int .i64 rd,.int .u32 V] W fun e w'=>e=.returned (.agg C)∧Below W.heap.size W w'):
  Calls Tryz.prog 75 #[iv M rd s1 s2 I,.int .u32 pc,.int .u32 A,.int .u32 B,.slice p n c] w fun e w'=>e=.returned (.agg C)∧Below w.heap.size w w':=by
 have q11:(M==11)=false:=beq_eq_false_iff_ne.2 (by omega)
 have q12:(M==12)=false:=beq_eq_false_iff_ne.2 (by omega)
 have q13:(M==13)=false:=beq_eq_false_iff_ne.2 (by omega)
 have q14:(M==14)=false:=beq_eq_false_iff_ne.2 (by omega)
 have q15:(M==15)=false:=beq_eq_false_iff_ne.2 (by omega)
 have q16:(M==16)=false:=beq_eq_false_iff_ne.2 (by omega)
 have q17:(M==17)=false:=beq_eq_false_iff_ne.2 (by omega)
 have q18:(M==18)=false:=beq_eq_false_iff_ne.2 (by omega)
 have q46:(M==46)=false:=beq_eq_false_iff_ne.2 (by omega)
 have q47:(M==47)=false:=beq_eq_false_iff_ne.2 (by omega)
 have q48:(M==48)=false:=beq_eq_false_iff_ne.2 (by omega)
 have ql:decide (M<1)=false:=decide_eq_false (by omega)
 have qg:decide ((48:Int)<M)=false:=decide_eq_false (by omega)
 clear hM hM2 h1
 go_enter Tryz.func75,Tryz.ntmps75
 go_wp2_with fail
 obtain⟨W,hW⟩:∃W:World,W=(w.alloc (.cells #[.int .i64 M,.int .i64 rd,.int .i64 s1,.int .i64 s2,.int .i32 I] 77)).alloc (.cells (ccs 0 0 0 0 0 0 0 0 0 false 0) 64):=⟨_,rfl⟩
 rw[←hW]
 have r24:W.heap[w.heap.size]?=some (.cells #[.int .i64 M,.int .i64 rd,.int .i64 s1,.int .i64 s2,.int .i32 I] 77 (0,0)):=by rw[hW];exact heap_alloc2_old _ _ _
 have R38:Hid (W.heap[w.heap.size+1]?=some (.cells (ccs 0 0 0 0 0 0 0 0 0 false 0) 64 (0,0))):=by rw[hW];exact heap_alloc2_new _ _ _
 have hsz:w.heap.size+2≤W.heap.size:=by rw[hW];simp
 have hb:Below w.heap.size w W:=by rw[hW];exact((Below.refl _ _).alloc (Nat.le_refl _) _).alloc (by simp) _
 have y0:=(cell_of_row W w.heap.size 0 _ _ _ r24).trans rfl
 have y1:=(cell_of_row W w.heap.size 1 _ _ _ r24).trans rfl
 have y2:=(cell_of_row W w.heap.size 2 _ _ _ r24).trans rfl
 have y3:=(cell_of_row W w.heap.size 3 _ _ _ r24).trans rfl
 have y4:=(cell_of_row W w.heap.size 4 _ _ _ r24).trans rfl
 have a1:w.heap.size<w.heap.size+2:=by omega
 have a2:w.heap.size+1<w.heap.size+2:=by omega
 clear hW r24
 refine wp_region_held_drew (S:=fun w'=>∀b,b<w.heap.size+2→b≠w.heap.size+1→w'.heap[b]?=W.heap[b]?) (by kernel_rfl) (fun _ _ _=>rfl) (fun hH=>?_)
 refine Co.tI 0 (.int .u32 pc) rfl hH ?_
 try simp only[Act.put,List.setIfInBounds_toArray,List.set_cons_zero,List.set_cons_succ]
 refine Co.tH 1 (.agg #[.int .i64 M,.int .i64 rd,.int .i64 s1,.int .i64 s2,.int .i32 I]) rfl (Or.inl ⟨by rfl,by intro w hSw;have hc0:=at_cell hSw a1 (by omega) y0;have hc1:=at_cell hSw a1 (by omega) y1;have hc2:=at_cell hSw a1 (by omega) y2;have hc3:=at_cell hSw a1 (by omega) y3;have hc4:=at_cell hSw a1 (by omega) y4;go_simp⟩) hH ?_
 try simp only[Act.put,List.setIfInBounds_toArray,List.set_cons_zero,List.set_cons_succ]
 refine Co.tI 2 (.int .u32 pc) rfl hH ?_
 try simp only[Act.put,List.setIfInBounds_toArray,List.set_cons_zero,List.set_cons_succ]
 refine Co.tI 3 (.int .u32 A) rfl hH ?_
 try simp only[Act.put,List.setIfInBounds_toArray,List.set_cons_zero,List.set_cons_succ]
 refine Co.tI 4 (.int .u32 B) rfl hH ?_
 try simp only[Act.put,List.setIfInBounds_toArray,List.set_cons_zero,List.set_cons_succ]
 refine Co.tI 7 (.pointer (some ⟨w.heap.size,1,none⟩)) rfl hH ?_
 try simp only[Act.put,List.setIfInBounds_toArray,List.set_cons_zero,List.set_cons_succ]
 refine Co.tH 8 (.int .i64 rd) rfl (Or.inl ⟨by rfl,by intro w hSw;have hc:=at_cell hSw a1 (by omega) y1;go_simp⟩) hH ?_
 try simp only[Act.put,List.setIfInBounds_toArray,List.set_cons_zero,List.set_cons_succ]
 refine Co.tH 9 (.agg #[.int .i64 M,.int .i64 rd,.int .i64 s1,.int .i64 s2,.int .i32 I]) rfl (Or.inl ⟨by rfl,by intro w hSw;have hc0:=at_cell hSw a1 (by omega) y0;have hc1:=at_cell hSw a1 (by omega) y1;have hc2:=at_cell hSw a1 (by omega) y2;have hc3:=at_cell hSw a1 (by omega) y3;have hc4:=at_cell hSw a1 (by omega) y4;go_simp⟩) hH ?_
 try simp only[Act.put,List.setIfInBounds_toArray,List.set_cons_zero,List.set_cons_succ]
 refine Co.tI 10 (.int .u32 pc) rfl hH ?_
 try simp only[Act.put,List.setIfInBounds_toArray,List.set_cons_zero,List.set_cons_succ]
 refine Co.tI 11 (.int .u32 A) rfl hH ?_
 try simp only[Act.put,List.setIfInBounds_toArray,List.set_cons_zero,List.set_cons_succ]
 refine Co.tI 12 (.int .u32 B) rfl hH ?_
 try simp only[Act.put,List.setIfInBounds_toArray,List.set_cons_zero,List.set_cons_succ]
 refine wpAnyH_ready (rs:=[5]) (by kernel_rfl) (by simp) ?_
 refine AllReadyH.cons rfl (fun K hK=>?_) AllReadyH.nil
 go_simp
 refine(CX _ hb.drew).mono ?_
 rintro e w3 ⟨rfl,hk3⟩
 have hB3:Below W.heap.size W w3:=below_first hk3 (Nat.le_refl _)
 go_wp2_with fail
 refine hK.out _ _ (fun b hb _=>hB3.block b (by omega)) (fun hH=>?_)
 clear hK K
 try simp only[Act.put,List.setIfInBounds_toArray,List.set_cons_zero,List.set_cons_succ]
 refine Co.tI 6 (cv pc NX 0 0 0 0 0 0 0 false 0) rfl hH ?_
 try simp only[Act.put,List.setIfInBounds_toArray,List.set_cons_zero,List.set_cons_succ]
 refine wpAnyH_ready (rs:=[13]) (by kernel_rfl) (by simp) ?_
 refine AllReadyH.cons rfl (fun K hK=>?_) AllReadyH.nil
 go_simp
 refine(CR _ (hb.trans (hB3.mono (by omega)))).mono ?_
 rintro e w4 ⟨rfl,hk4⟩
 have hB4:Below W.heap.size W w4:=below_next hB3 hk4 (Nat.le_refl _)
 go_wp2_with fail
 refine hK.out _ _ (fun b hb _=>hB4.block b (by omega)) (fun hH=>?_)
 clear hK K
 try simp only[Act.put,List.setIfInBounds_toArray,List.set_cons_zero,List.set_cons_succ]
 refine wpAnyH_ready (rs:=[14]) (by kernel_rfl) (by simp) ?_
 refine AllReadyH.cons rfl (fun K hK=>?_) AllReadyH.nil
 go_simp
 refine(CG _).mono ?_
 rintro e w5 ⟨rfl,hk5⟩
 have hB5:Below W.heap.size W w5:=below_next hB4 hk5 (Nat.le_refl _)
 go_wp2_with fail
 refine hK.out _ _ (fun b hb _=>hB5.block b (by omega)) (fun hH=>?_)
 clear hK K
 try simp only[Act.put,List.setIfInBounds_toArray,List.set_cons_zero,List.set_cons_succ]
 refine wpAnyH_ready (rs:=[15]) (by kernel_rfl) (by simp) ?_
 refine AllReadyH.cons rfl (fun K hK=>?_) AllReadyH.nil
 rw[if_pos (by rfl)]
 refine wp_store_row 64 _ _ rfl _ _ rfl rfl 64 (ccs 0 0 0 0 0 0 0 0 0 false 0) (below_row_at hB5 (by omega) R38.out) (size_commit.trans (congrArg some hC.out.1.symm)) hC.out.1.symm hC.out.2 ?_
 refine hK.out _ _ (fun b hb hn=>(setRow_other _ _ _ _ hn).trans (hB5.block b (by omega))) (fun hH=>?_)
 clear hK K
 refine wpAnyH_done (by kernel_rfl) ?_ _
 go_wp2_with fail
 exact bodyPost_ret (v:=.agg C) (results_cell_row Tryz.results75 _ _ _ 64 _ (0,0) _ rfl (setRow_heap _ _ _ _ _ _ (below_row_at hB5 (by omega) R38.out)) Tryz.underlying64 rfl (size_commit.trans (congrArg some hC.out.1.symm))) rfl ⟨rfl,below_row (hb.trans (hB5.mono (by omega))) (by omega) _⟩
end Go.Proofs.YtpiohehijkpghabGreatDoor
