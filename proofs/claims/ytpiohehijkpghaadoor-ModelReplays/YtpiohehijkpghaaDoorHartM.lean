/- The program's commit, ; Step, where nothing is to be done: walked. -/
import Derived.Test.YtpiohehijkpghaaDoorHartL
import Derived.Deep.Cut
import Derived.Test.YtpiohehijkpghaaDoorDecE
namespace Go.Proofs.YtpiohehijkpghaaDoor
open Go.RowKit
open Hy
set_option linter.unusedVariables false
set_option linter.unusedSimpArgs false

theorem ones_zero : Ones (hcs (fun _ => 0) 0 0 0) := by unfold Ones; simp [Value.oneCell']

theorem results4 {P : Program} {fn : Func} {q u a b : Tmp} {t1 t2 : TypeId} (h : fn.results = #[.cell q t1, .cell u t2, .tmp a, .tmp b]) {tmps : Array Value} {w : World} {A1 A2 : Addr} {v1 v2 : Value} {x y : Value}
    (h1 : tmps.getD q undef = .pointer (some A1)) (h2 : tmps.getD u undef = .pointer (some A2)) (h3 : tmps.getD a undef = x) (h4 : tmps.getD b undef = y)
    (L1 : (loadVar t1 A1).run P w = .ok v1 w) (L2 : (loadVar t2 A2).run P w = .ok v2 w) : (results fn tmps).run P w = .ok (.tuple #[v1, v2, x, y]) w := by
  simp only [Array.getD_eq_getD_getElem?] at h1 h2 h3 h4
  simp [results, h, h1, h2, h3, h4, asAddr, L1, L2]

set_option maxRecDepth 20000 in
set_option maxHeartbeats 4000000 in
theorem hStep_may (H : Array Value) (st : Int) (p : Option Addr) (n c : Nat) (w : World) (hI : Hid (H.size = 35)) (h33 : H[33]? = some (.int .i64 st))
    (CM : ∀ W, Calls Tryd.prog 15 #[.agg H] W fun e w' => e = .returned (.bool false) ∧ Below W.heap.size W w') :
    Calls Tryd.prog 17 #[.agg H, .slice p n c] w fun e w' => e = .returned (.tuple #[cv 0 0 0 0 0 0 0 0 0 false 0, hv (fun _ => 0) 0 0 0, .slice none 0 0, .bool false]) ∧ Below w.heap.size w w' := by
  go_enter Tryd.func17, Tryd.ntmps17
  go_wp2_with (refine wpList_load_row rfl 34 _ rfl _ rfl 34 _ (0, 0) _ (heap3_old0 _ _ _ _) Tryd.underlying34 rfl (info_hart hI.out) ?_)
  refine (CM _).mono ?_
  rintro e w2 ⟨rfl, hk⟩
  have hs2 := hk.size
  simp at hs2
  have r34 : w2.heap[w.heap.size]? = some (.cells H 34 (0, 0)) := (hk.block _ (by simp; omega)).trans (heap3_old0 _ _ _ _)
  have R38 : Hid (w2.heap[w.heap.size + 1]? = some (.cells (ccs 0 0 0 0 0 0 0 0 0 false 0) 38 (0, 0))) := (hk.block _ (by simp)).trans (heap3_mid _ _ _ _)
  have RZ : Hid (w2.heap[w.heap.size + 1 + 1]? = some (.cells (hcs (fun _ => 0) 0 0 0) 34 (0, 0))) := (hk.block _ (by simp)).trans (heap3_new0 _ _ _ _)
  have k33 := (cell_of_row w2 w.heap.size 33 _ _ _ r34).trans h33
  have hb2 : Below w.heap.size w w2 := ((((Below.refl _ _).alloc (Nat.le_refl _) _).alloc (by simp) _).alloc (by simp; omega) _).trans (hk.mono (by simp; omega))
  have hs3 : w.heap.size + 1 + 1 < w2.heap.size := by omega
  clear hk r34 CM h33 hs2
  go_upto_region 2 with fail
  go_wp2_with (first | (refine wpList_store_row rfl 38 _ _ rfl _ _ rfl rfl 38 (ccs 0 0 0 0 0 0 0 0 0 false 0) R38.out size_commit rfl (ones_ccs _ _ _ _ _ _ _ _ _ _ _) ?_) | (refine wpList_store_row rfl 34 _ _ rfl _ _ rfl rfl 34 (hcs (fun _ => 0) 0 0 0) ((setRow_other _ _ _ _ (by omega)).trans RZ.out) size_hart rfl ones_zero ?_))
  have f1 : ((w2.setRow (w.heap.size + 1) (ccs 0 0 0 0 0 0 0 0 0 false 0)).setRow (w.heap.size + 1 + 1) (hcs (fun _ => 0) 0 0 0)).heap[w.heap.size + 1]? = some (.cells (ccs 0 0 0 0 0 0 0 0 0 false 0) 38 (0, 0)) := (setRow_other _ _ _ _ (by omega)).trans (setRow_heap _ _ _ _ _ _ R38.out)
  have f2 : ((w2.setRow (w.heap.size + 1) (ccs 0 0 0 0 0 0 0 0 0 false 0)).setRow (w.heap.size + 1 + 1) (hcs (fun _ => 0) 0 0 0)).heap[w.heap.size + 1 + 1]? = some (.cells (hcs (fun _ => 0) 0 0 0) 34 (0, 0)) := setRow_heap _ _ _ _ _ _ ((setRow_other _ _ _ _ (by omega)).trans RZ.out)
  have L1 := run_loadVar_row (P := Tryd.prog) _ _ 38 38 _ (0, 0) _ f1 Tryd.underlying38 rfl size_commit
  have L2 := run_loadVar_row (P := Tryd.prog) _ _ 34 34 _ (0, 0) _ f2 Tryd.underlying34 rfl size_hart
  refine bodyPost_ret (v := .tuple #[cv 0 0 0 0 0 0 0 0 0 false 0, hv (fun _ => 0) 0 0 0, .slice none 0 0, .bool false]) ?_ rfl ⟨rfl, below_row (below_row hb2 (by omega) _) (by omega) _⟩
  exact results4 Tryd.results17 rfl rfl rfl rfl L1 L2

set_option maxRecDepth 20000 in
set_option maxHeartbeats 4000000 in
theorem hStep_runs (H : Array Value) (st : Int) (p : Option Addr) (n c : Nat) (w : World) (hI : Hid (H.size = 35)) (h33 : H[33]? = some (.int .i64 st)) (hz : (st != 0) = true)
    (CM : ∀ W, Calls Tryd.prog 15 #[.agg H] W fun e w' => e = .returned (.bool true) ∧ Below W.heap.size W w') :
    Calls Tryd.prog 17 #[.agg H, .slice p n c] w fun e w' => e = .returned (.tuple #[cv 0 0 0 0 0 0 0 0 0 false 0, hv (fun _ => 0) 0 0 0, .slice none 0 0, .bool false]) ∧ Below w.heap.size w w' := by
  go_enter Tryd.func17, Tryd.ntmps17
  go_wp2_with (refine wpList_load_row rfl 34 _ rfl _ rfl 34 _ (0, 0) _ (heap3_old0 _ _ _ _) Tryd.underlying34 rfl (info_hart hI.out) ?_)
  refine (CM _).mono ?_
  rintro e w2 ⟨rfl, hk⟩
  have hs2 := hk.size
  simp at hs2
  have r34 : w2.heap[w.heap.size]? = some (.cells H 34 (0, 0)) := (hk.block _ (by simp; omega)).trans (heap3_old0 _ _ _ _)
  have R38 : Hid (w2.heap[w.heap.size + 1]? = some (.cells (ccs 0 0 0 0 0 0 0 0 0 false 0) 38 (0, 0))) := (hk.block _ (by simp)).trans (heap3_mid _ _ _ _)
  have RZ : Hid (w2.heap[w.heap.size + 1 + 1]? = some (.cells (hcs (fun _ => 0) 0 0 0) 34 (0, 0))) := (hk.block _ (by simp)).trans (heap3_new0 _ _ _ _)
  have k33 := (cell_of_row w2 w.heap.size 33 _ _ _ r34).trans h33
  have hb2 : Below w.heap.size w w2 := ((((Below.refl _ _).alloc (Nat.le_refl _) _).alloc (by simp) _).alloc (by simp; omega) _).trans (hk.mono (by simp; omega))
  have hs3 : w.heap.size + 1 + 1 < w2.heap.size := by omega
  clear hk r34 CM h33 hs2
  go_upto_region 2 with fail
  go_wp2_with (first | (refine wpList_store_row rfl 38 _ _ rfl _ _ rfl rfl 38 (ccs 0 0 0 0 0 0 0 0 0 false 0) R38.out size_commit rfl (ones_ccs _ _ _ _ _ _ _ _ _ _ _) ?_) | (refine wpList_store_row rfl 34 _ _ rfl _ _ rfl rfl 34 (hcs (fun _ => 0) 0 0 0) ((setRow_other _ _ _ _ (by omega)).trans RZ.out) size_hart rfl ones_zero ?_))
  have f1 : ((w2.setRow (w.heap.size + 1) (ccs 0 0 0 0 0 0 0 0 0 false 0)).setRow (w.heap.size + 1 + 1) (hcs (fun _ => 0) 0 0 0)).heap[w.heap.size + 1]? = some (.cells (ccs 0 0 0 0 0 0 0 0 0 false 0) 38 (0, 0)) := (setRow_other _ _ _ _ (by omega)).trans (setRow_heap _ _ _ _ _ _ R38.out)
  have f2 : ((w2.setRow (w.heap.size + 1) (ccs 0 0 0 0 0 0 0 0 0 false 0)).setRow (w.heap.size + 1 + 1) (hcs (fun _ => 0) 0 0 0)).heap[w.heap.size + 1 + 1]? = some (.cells (hcs (fun _ => 0) 0 0 0) 34 (0, 0)) := setRow_heap _ _ _ _ _ _ ((setRow_other _ _ _ _ (by omega)).trans RZ.out)
  have L1 := run_loadVar_row (P := Tryd.prog) _ _ 38 38 _ (0, 0) _ f1 Tryd.underlying38 rfl size_commit
  have L2 := run_loadVar_row (P := Tryd.prog) _ _ 34 34 _ (0, 0) _ f2 Tryd.underlying34 rfl size_hart
  refine bodyPost_ret (v := .tuple #[cv 0 0 0 0 0 0 0 0 0 false 0, hv (fun _ => 0) 0 0 0, .slice none 0 0, .bool false]) ?_ rfl ⟨rfl, below_row (below_row hb2 (by omega) _) (by omega) _⟩
  exact results4 Tryd.results17 rfl rfl rfl rfl L1 L2

set_option maxRecDepth 20000 in
set_option maxHeartbeats 4000000 in
theorem hStep_long (H : Array Value) (st : Int) (p : Option Addr) (n c : Nat) (w : World) (hI : Hid (H.size = 35)) (h33 : H[33]? = some (.int .i64 st)) (hz : (st != 0) = false) (hz2 : (st == 0) = true) (hl : decide ((4096 : Int) < (n : Int)) = true)
    (CM : ∀ W, Calls Tryd.prog 15 #[.agg H] W fun e w' => e = .returned (.bool true) ∧ Below W.heap.size W w') :
    Calls Tryd.prog 17 #[.agg H, .slice p n c] w fun e w' => e = .returned (.tuple #[cv 0 0 0 0 0 0 0 0 0 false 0, hv (fun _ => 0) 0 0 0, .slice none 0 0, .bool false]) ∧ Below w.heap.size w w' := by
  go_enter Tryd.func17, Tryd.ntmps17
  go_wp2_with (refine wpList_load_row rfl 34 _ rfl _ rfl 34 _ (0, 0) _ (heap3_old0 _ _ _ _) Tryd.underlying34 rfl (info_hart hI.out) ?_)
  refine (CM _).mono ?_
  rintro e w2 ⟨rfl, hk⟩
  have hs2 := hk.size
  simp at hs2
  have r34 : w2.heap[w.heap.size]? = some (.cells H 34 (0, 0)) := (hk.block _ (by simp; omega)).trans (heap3_old0 _ _ _ _)
  have R38 : Hid (w2.heap[w.heap.size + 1]? = some (.cells (ccs 0 0 0 0 0 0 0 0 0 false 0) 38 (0, 0))) := (hk.block _ (by simp)).trans (heap3_mid _ _ _ _)
  have RZ : Hid (w2.heap[w.heap.size + 1 + 1]? = some (.cells (hcs (fun _ => 0) 0 0 0) 34 (0, 0))) := (hk.block _ (by simp)).trans (heap3_new0 _ _ _ _)
  have k33 := (cell_of_row w2 w.heap.size 33 _ _ _ r34).trans h33
  have hb2 : Below w.heap.size w w2 := ((((Below.refl _ _).alloc (Nat.le_refl _) _).alloc (by simp) _).alloc (by simp; omega) _).trans (hk.mono (by simp; omega))
  have hs3 : w.heap.size + 1 + 1 < w2.heap.size := by omega
  clear hk r34 CM h33 hs2
  go_upto_region 2 with fail
  go_wp2_with (first | (refine wpList_store_row rfl 38 _ _ rfl _ _ rfl rfl 38 (ccs 0 0 0 0 0 0 0 0 0 false 0) R38.out size_commit rfl (ones_ccs _ _ _ _ _ _ _ _ _ _ _) ?_) | (refine wpList_store_row rfl 34 _ _ rfl _ _ rfl rfl 34 (hcs (fun _ => 0) 0 0 0) ((setRow_other _ _ _ _ (by omega)).trans RZ.out) size_hart rfl ones_zero ?_))
  have f1 : ((w2.setRow (w.heap.size + 1) (ccs 0 0 0 0 0 0 0 0 0 false 0)).setRow (w.heap.size + 1 + 1) (hcs (fun _ => 0) 0 0 0)).heap[w.heap.size + 1]? = some (.cells (ccs 0 0 0 0 0 0 0 0 0 false 0) 38 (0, 0)) := (setRow_other _ _ _ _ (by omega)).trans (setRow_heap _ _ _ _ _ _ R38.out)
  have f2 : ((w2.setRow (w.heap.size + 1) (ccs 0 0 0 0 0 0 0 0 0 false 0)).setRow (w.heap.size + 1 + 1) (hcs (fun _ => 0) 0 0 0)).heap[w.heap.size + 1 + 1]? = some (.cells (hcs (fun _ => 0) 0 0 0) 34 (0, 0)) := setRow_heap _ _ _ _ _ _ ((setRow_other _ _ _ _ (by omega)).trans RZ.out)
  have L1 := run_loadVar_row (P := Tryd.prog) _ _ 38 38 _ (0, 0) _ f1 Tryd.underlying38 rfl size_commit
  have L2 := run_loadVar_row (P := Tryd.prog) _ _ 34 34 _ (0, 0) _ f2 Tryd.underlying34 rfl size_hart
  refine bodyPost_ret (v := .tuple #[cv 0 0 0 0 0 0 0 0 0 false 0, hv (fun _ => 0) 0 0 0, .slice none 0 0, .bool false]) ?_ rfl ⟨rfl, below_row (below_row hb2 (by omega) _) (by omega) _⟩
  exact results4 Tryd.results17 rfl rfl rfl rfl L1 L2

end Go.Proofs.YtpiohehijkpghaaDoor
