/- The program's commit, 's two traps of the word itself, and Step: walked. -/
import Derived.Test.YtpiohehijkpghaaDoorHartI
import Derived.Test.YtpiohehijkpghaaDoorDecE
namespace Go.Proofs.YtpiohehijkpghaaDoor
open Go.RowKit
open Hy
set_option linter.unusedVariables false
set_option linter.unusedSimpArgs false

set_option maxRecDepth 20000 in
set_option maxHeartbeats 4000000 in
theorem hcFetch (H : Array Value) (pc X : Int) (p : Option Addr) (n c : Nat) (w : World) (h32 : H[32]? = some (.int .u32 pc))
    (CL : ∀ W, Below w.heap.size w W → Calls Tryd.prog 52 #[.slice p n c, .int .i64 13, .int .u32 pc] W fun e w' => e = .returned (.tuple #[.int .u32 X, .bool false]) ∧ w' = W) :
    Calls Tryd.prog 33 #[.agg H, .slice p n c] w fun e w' => e = .returned (cv pc pc 2 1 0 0 0 0 0 false 0) ∧ Below w.heap.size w w' := by
  go_enter Tryd.func33, Tryd.ntmps33
  go_wp2_with fail
  refine (CL _ (((Below.refl _ _).alloc (Nat.le_refl _) _).alloc (by simp) _)).mono ?_
  rintro e w' ⟨rfl, rfl⟩
  go_wp2_with fail
  refine (htrap_any pc 1 _).mono ?_
  rintro e w2 ⟨rfl, hk⟩
  have hs := hk.size
  simp at hs
  have hr := (hk.block (w.heap.size + 1) (by simp)).trans (heap_alloc2_new _ _ _)
  go_wp2_with (refine wpList_store_row rfl 38 _ _ rfl _ _ rfl rfl 38 _ hr size_commit rfl (ones_ccs _ _ _ _ _ _ _ _ _ _ _) ?_)
  exact bodyPost_ret (v := cv pc pc 2 1 0 0 0 0 0 false 0) (results_cell_row Tryd.results33 _ _ _ 38 _ (0, 0) _ rfl (setRow_heap _ _ _ _ _ _ hr) Tryd.underlying38 rfl size_commit) rfl ⟨rfl, below_row ((((Below.refl _ _).alloc (Nat.le_refl _) _).alloc (by simp) _).trans (hk.mono (by simp; omega))) (by simp) _⟩

set_option maxRecDepth 20000 in
set_option maxHeartbeats 4000000 in
theorem hcWord (H : Array Value) (pc X : Int) (p : Option Addr) (n c : Nat) (w : World) (h32 : H[32]? = some (.int .u32 pc))
    (CL : ∀ W, Below w.heap.size w W → Calls Tryd.prog 52 #[.slice p n c, .int .i64 13, .int .u32 pc] W fun e w' => e = .returned (.tuple #[.int .u32 X, .bool true]) ∧ w' = W)
    (CD : ∀ W, Below w.heap.size w W → Calls Tryd.prog 11 #[.int .u32 X] W fun e w' => e = .returned (.tuple #[iv 0 0 0 0 0, .bool false]) ∧ Below W.heap.size W w') :
    Calls Tryd.prog 33 #[.agg H, .slice p n c] w fun e w' => e = .returned (cv pc pc 2 2 0 0 0 0 0 false 0) ∧ Below w.heap.size w w' := by
  go_enter Tryd.func33, Tryd.ntmps33
  go_wp2_with fail
  refine (CL _ (((Below.refl _ _).alloc (Nat.le_refl _) _).alloc (by simp) _)).mono ?_
  rintro e w' ⟨rfl, rfl⟩
  go_wp2_with fail
  refine (CD _ (((Below.refl _ _).alloc (Nat.le_refl _) _).alloc (by simp) _)).mono ?_
  rintro e w2 ⟨rfl, hk⟩
  have hs2 := hk.size
  simp at hs2
  have hrow : w2.heap[w.heap.size]? = some (.cells H 34 (0, 0)) := (hk.block _ (by simp; omega)).trans (heap_alloc2_old _ _ _)
  have HZ : Hid (w2.heap[w.heap.size + 1]? = some (.cells (ccs 0 0 0 0 0 0 0 0 0 false 0) 38 (0, 0))) := (hk.block _ (by simp)).trans (heap_alloc2_new _ _ _)
  have hb0 : Below w.heap.size w w2 := (((Below.refl _ _).alloc (Nat.le_refl _) _).alloc (by simp) _).trans (hk.mono (by simp; omega))
  have k32 := (cell_of_row w2 w.heap.size 32 _ _ _ hrow).trans h32
  have hs3 : w.heap.size < w2.heap.size := by omega
  have hs4 : w.heap.size + 1 < w2.heap.size := by omega
  clear hk hrow h32 CL CD hs2
  go_wp2_with fail
  refine (htrap_any pc 2 _).mono ?_
  rintro e w3 ⟨rfl, hk3⟩
  have HZ3 : Hid (w3.heap[w.heap.size + 1]? = some (.cells (ccs 0 0 0 0 0 0 0 0 0 false 0) 38 (0, 0))) := (hk3.block _ (by simp; omega)).trans ((Below.heap_alloc _ _ _ hs4).trans HZ.out)
  have hb3 : Below w.heap.size w w3 := (hb0.alloc (by omega) _).trans (hk3.mono (by simp; omega))
  clear hk3
  go_wp2_with (refine wpList_store_row rfl 38 _ _ rfl _ _ rfl rfl 38 (ccs 0 0 0 0 0 0 0 0 0 false 0) HZ3.out size_commit rfl (ones_ccs _ _ _ _ _ _ _ _ _ _ _) ?_)
  exact bodyPost_ret (v := cv pc pc 2 2 0 0 0 0 0 false 0) (results_cell_row Tryd.results33 _ _ _ 38 _ (0, 0) _ rfl (setRow_heap _ _ _ _ _ _ HZ3.out) Tryd.underlying38 rfl size_commit) rfl ⟨rfl, below_row hb3 (by omega) _⟩

theorem yieldsIf_load_row {P : Program} {ops : Array Oper} {S : World → Prop} {op : Oper} {a : Act} (hw : Region.wanted op (yielded ops a.tmps) = true) (ty : TypeId) (x : Operand) (ho : op.op = .load ty x)
    (b : Nat) (hx : a.eval x = .pointer (some ⟨b, 0, none⟩)) (t : TypeId) (cs : Array Value) (fr : Nat × Nat) (d : TypeDesc) (hS : ∀ w, S w → w.heap[b]? = some (.cells cs t fr))
    (hu : P.underlying ty = some d) (hd : (match d with | .struct _ | .array _ _ => true | _ => false) = true) (hi : (P.info? ty).map (·.size) = some cs.size) : YieldsIf P ops S op (.agg cs) a :=
  .inl ⟨hw, fun w hw' => by
    unfold execOp
    simp only [ho, hx, Instr.loadAt, Instr.sureAddr, Sem.run_bind, Sem.run_pure, Result.andThen_ok, run_loadVar_row w b t ty cs fr d (hS w hw') hu hd hi]⟩

theorem heap3_new0 (w : World) (A B C : Obj) : (((w.alloc A).alloc B).alloc C).heap[w.heap.size + 1 + 1]? = some C := heap3_new w A B C
theorem heap3_mid (w : World) (A B C : Obj) : (((w.alloc A).alloc B).alloc C).heap[w.heap.size + 1]? = some B := (Below.heap_alloc _ _ _ (by simp)).trans (heap_alloc2_new _ _ _)
theorem heap3_old0 (w : World) (A B C : Obj) : (((w.alloc A).alloc B).alloc C).heap[w.heap.size]? = some A := heap3_old w A B C

set_option maxRecDepth 20000 in
set_option maxHeartbeats 4000000 in
theorem hStep_yes (H H2 C : Array Value) (pc : Int) (p : Option Addr) (n c : Nat) (f' : Nat → Int) (hn : n ≤ 4096) (w : World) (hI : Hid (H.size = 35)) (hI2 : Hid (H2.size = 35 ∧ Ones H2)) (hC : Hid (C.size = 11 ∧ Ones C)) (h33 : H[33]? = some (.int .i64 0))
    (CM : ∀ W, Calls Tryd.prog 15 #[.agg H] W fun e w' => e = .returned (.bool true) ∧ Below W.heap.size W w')
    (CC : ∀ W, Below w.heap.size w W → Calls Tryd.prog 33 #[.agg H, .slice p n c] W fun e w' => e = .returned (.agg C) ∧ Below W.heap.size W w')
    (CB : ∀ W, Calls Tryd.prog 34 #[.agg H, .agg C] W fun e w' => e = .returned (.agg H2) ∧ Below W.heap.size W w')
    (CW : ∀ W, Below w.heap.size w W → Calls Tryd.prog 35 #[.slice p n c, .agg C] W fun e w' => (∃ p' cap, e = .returned (.slice p' n cap) ∧ n ≤ cap ∧ Own w' W.heap.size p' n f') ∧ Below W.heap.size W w') :
    Calls Tryd.prog 17 #[.agg H, .slice p n c] w fun e w' => (∃ p' cap, e = .returned (.tuple #[.agg C, .agg H2, .slice p' n cap, .bool true]) ∧ n ≤ cap ∧ Own w' w.heap.size p' n f') ∧ Below w.heap.size w w' := by
  have hle : decide ((4096 : Int) < (n : Int)) = false := decide_eq_false (by omega)
  go_enter Tryd.func17, Tryd.ntmps17
  go_wp2_with (refine wpList_load_row rfl 34 _ rfl _ rfl 34 _ (0, 0) _ (heap3_old0 _ _ _ _) Tryd.underlying34 rfl (info_hart hI.out) ?_)
  refine (CM _).mono ?_
  rintro e w2 ⟨rfl, hk⟩
  have hs2 := hk.size
  simp at hs2
  have r34 : w2.heap[w.heap.size]? = some (.cells H 34 (0, 0)) := (hk.block _ (by simp; omega)).trans (heap3_old0 _ _ _ _)
  have R38 : Hid (w2.heap[w.heap.size + 1]? = some (.cells (ccs 0 0 0 0 0 0 0 0 0 false 0) 38 (0, 0))) := (hk.block _ (by simp)).trans (heap3_mid _ _ _ _)
  obtain ⟨Z, hZ, hres⟩ : ∃ Z : Array Value, Z.size = 35 ∧ w2.heap[w.heap.size + 1 + 1]? = some (.cells Z 34 (0, 0)) := ⟨_, rfl, (hk.block _ (by simp)).trans (heap3_new0 _ _ _ _)⟩
  have HZ : Hid (Z.size = 35 ∧ w2.heap[w.heap.size + 1 + 1]? = some (.cells Z 34 (0, 0))) := ⟨hZ, hres⟩
  have R34 : Hid (w2.heap[w.heap.size]? = some (.cells H 34 (0, 0))) := r34
  have k33 := (cell_of_row w2 w.heap.size 33 _ _ _ r34).trans h33
  have hb2 : Below w.heap.size w w2 := ((((Below.refl _ _).alloc (Nat.le_refl _) _).alloc (by simp) _).alloc (by simp; omega) _).trans (hk.mono (by simp; omega))
  have hs3 : w.heap.size + 1 + 1 < w2.heap.size := by omega
  clear hk r34 hZ hres CM h33 hs2
  go_wp2_with (refine wpList_load_row rfl 34 _ rfl _ rfl 34 _ (0, 0) _ R34.out Tryd.underlying34 rfl (info_hart hI.out) ?_)
  refine (CC _ hb2).mono ?_
  rintro e w3 ⟨rfl, hk3⟩
  have hs4 := hk3.size
  have R34 : Hid (w3.heap[w.heap.size]? = some (.cells H 34 (0, 0))) := (hk3.block _ (by omega)).trans R34.out
  have R38 : Hid (w3.heap[w.heap.size + 1]? = some (.cells (ccs 0 0 0 0 0 0 0 0 0 false 0) 38 (0, 0))) := (hk3.block _ (by omega)).trans R38.out
  have HZ : Hid (Z.size = 35 ∧ w3.heap[w.heap.size + 1 + 1]? = some (.cells Z 34 (0, 0))) := ⟨HZ.out.1, (hk3.block _ (by omega)).trans HZ.out.2⟩
  have hb3 : Below w.heap.size w w3 := hb2.trans (hk3.mono (by omega))
  have hs5 : w.heap.size + 1 + 1 < w3.heap.size := by omega
  clear hk3 hb2 hs3 hs4 k33 CC
  go_wp2_with (refine wpList_store_row rfl 38 _ _ rfl _ _ rfl rfl 38 (ccs 0 0 0 0 0 0 0 0 0 false 0) (heap_alloc_new _ _) (size_commit.trans (congrArg some hC.out.1.symm)) hC.out.1.symm hC.out.2 ?_)
  rw [World.setRow_alloc_new]
  try simp only [Act.put]
  obtain ⟨W, hW⟩ : ∃ W : World, W = w3.alloc (.cells C 38) := ⟨_, rfl⟩
  rw [← hW]
  have rC : W.heap[w3.heap.size]? = some (.cells C 38 (0, 0)) := by rw [hW]; exact heap_alloc_new _ _
  have rH : W.heap[w.heap.size]? = some (.cells H 34 (0, 0)) := by rw [hW]; exact (Below.heap_alloc _ _ _ (by omega)).trans R34.out
  have rR : Hid (W.heap[w.heap.size + 1]? = some (.cells (ccs 0 0 0 0 0 0 0 0 0 false 0) 38 (0, 0))) := by rw [hW]; exact (Below.heap_alloc _ _ _ (by omega)).trans R38.out
  have rZ : Hid (W.heap[w.heap.size + 1 + 1]? = some (.cells Z 34 (0, 0))) := by rw [hW]; exact (Below.heap_alloc _ _ _ (by omega)).trans HZ.out.2
  have RC : Hid (W.heap[w3.heap.size]? = some (.cells C 38 (0, 0))) := rC
  have RH : Hid (W.heap[w.heap.size]? = some (.cells H 34 (0, 0))) := rH
  have hsz : w3.heap.size + 1 ≤ W.heap.size := by rw [hW]; simp
  have hb : Below w.heap.size w W := by rw [hW]; exact hb3.alloc (by omega) _
  clear hW rC rH R34 R38
  refine wp_region_held_drew (S := fun w' => ∀ b, b < w3.heap.size + 1 → b ≠ w.heap.size + 1 → b ≠ w.heap.size + 1 + 1 → w'.heap[b]? = W.heap[b]?) (by kernel_rfl) (fun _ _ _ _ => rfl) (fun hH => ?_)
  refine wpAnyH_take (i := 0) (v := .agg C) rfl (by kernel_rfl) (by kernel_rfl) (by kernel_rfl) (fun _ _ _ h => h) (yieldsIf_load_row (by rfl) 38 _ rfl _ rfl 38 _ (0, 0) _ (fun w hSw => (hSw _ (by omega) (by omega) (by omega)).trans RC.out) Tryd.underlying38 rfl (size_commit.trans (congrArg some hC.out.1.symm))) hH ?_
  try simp only [Act.put, List.setIfInBounds_toArray, List.set_cons_zero, List.set_cons_succ]
  refine wpAnyH_take (i := 1) (v := .agg H) rfl (by kernel_rfl) (by kernel_rfl) (by kernel_rfl) (fun _ _ _ h => h) (yieldsIf_load_row (by rfl) 34 _ rfl _ rfl 34 _ (0, 0) _ (fun w hSw => (hSw _ (by omega) (by omega) (by omega)).trans RH.out) Tryd.underlying34 rfl (info_hart hI.out)) hH ?_
  try simp only [Act.put, List.setIfInBounds_toArray, List.set_cons_zero, List.set_cons_succ]
  refine wpAnyH_take (i := 2) (v := .agg C) rfl (by kernel_rfl) (by kernel_rfl) (by kernel_rfl) (fun _ _ _ h => h) (yieldsIf_load_row (by rfl) 38 _ rfl _ rfl 38 _ (0, 0) _ (fun w hSw => (hSw _ (by omega) (by omega) (by omega)).trans RC.out) Tryd.underlying38 rfl (size_commit.trans (congrArg some hC.out.1.symm))) hH ?_
  try simp only [Act.put, List.setIfInBounds_toArray, List.set_cons_zero, List.set_cons_succ]
  refine wpAnyH_take (i := 4) (v := .slice p n c) rfl (by kernel_rfl) (by kernel_rfl) (by kernel_rfl) (fun _ _ _ h => h) (Or.inl ⟨by rfl, by intro w hSw; go_simp⟩) hH ?_
  try simp only [Act.put, List.setIfInBounds_toArray, List.set_cons_zero, List.set_cons_succ]
  refine wpAnyH_take (i := 5) (v := .agg C) rfl (by kernel_rfl) (by kernel_rfl) (by kernel_rfl) (fun _ _ _ h => h) (yieldsIf_load_row (by rfl) 38 _ rfl _ rfl 38 _ (0, 0) _ (fun w hSw => (hSw _ (by omega) (by omega) (by omega)).trans RC.out) Tryd.underlying38 rfl (size_commit.trans (congrArg some hC.out.1.symm))) hH ?_
  try simp only [Act.put, List.setIfInBounds_toArray, List.set_cons_zero, List.set_cons_succ]
  refine wpAnyH_ready (rs := [3]) (by kernel_rfl) (by simp) ?_
  refine AllReadyH.cons rfl (fun K hK => ?_) AllReadyH.nil
  go_simp
  refine (CB _).mono ?_
  rintro e w4 ⟨rfl, hk4⟩
  have hB4 : Below W.heap.size W w4 := below_first hk4 (Nat.le_refl _)
  go_wp2_with fail
  refine hK.out _ _ (fun b hb _ _ => hB4.block b (by omega)) (fun hH => ?_)
  clear hK K
  try simp only [Act.put, List.setIfInBounds_toArray, List.set_cons_zero, List.set_cons_succ]
  refine wpAnyH_ready (rs := [6]) (by kernel_rfl) (by simp) ?_
  refine AllReadyH.cons rfl (fun K hK => ?_) AllReadyH.nil
  go_simp
  refine (CW _ (hb.trans (hB4.mono (by omega)))).mono ?_
  rintro e w5 ⟨⟨p', cap, rfl, hcap, hm⟩, hk5⟩
  have hB5 : Below W.heap.size W w5 := below_next hB4 hk5 (Nat.le_refl _)
  have HM : Hid (Own w5 w4.heap.size p' n f') := hm
  clear hm
  go_wp2_with fail
  refine hK.out _ _ (fun b hb _ _ => hB5.block b (by omega)) (fun hH => ?_)
  clear hK K
  try simp only [Act.put, List.setIfInBounds_toArray, List.set_cons_zero, List.set_cons_succ]
  refine wpAnyH_ready (rs := [7]) (by kernel_rfl) (by simp) ?_
  refine AllReadyH.cons rfl (fun K hK => ?_) AllReadyH.nil
  rw [if_pos (by rfl)]
  refine wp_store_row 38 _ _ rfl _ _ rfl rfl 38 (ccs 0 0 0 0 0 0 0 0 0 false 0) (below_row_at hB5 (by omega) rR.out) (size_commit.trans (congrArg some hC.out.1.symm)) hC.out.1.symm hC.out.2 ?_
  refine hK.out _ _ (fun b hb hn _ => (setRow_other _ _ _ _ hn).trans (hB5.block b (by omega))) (fun hH => ?_)
  clear hK K
  try simp only [Act.put, List.getElem_toArray, List.getElem_cons_succ, List.getElem_cons_zero]
  refine wpAnyH_ready (rs := [8]) (by kernel_rfl) (by simp) ?_
  refine AllReadyH.cons rfl (fun K hK => ?_) AllReadyH.nil
  rw [if_pos (by rfl)]
  refine wp_store_row 34 _ _ rfl _ _ rfl rfl 34 Z ((setRow_other _ _ _ _ (by omega)).trans (below_row_at hB5 (by omega) rZ.out)) (info_hart hI2.out.1) (HZ.out.1.trans hI2.out.1.symm) hI2.out.2 ?_
  refine hK.out _ _ (fun b hb hn hn2 => (setRow_other _ _ _ _ hn2).trans ((setRow_other _ _ _ _ hn).trans (hB5.block b (by omega)))) (fun hH => ?_)
  clear hK K
  try simp only [Act.put, List.getElem_toArray, List.getElem_cons_succ, List.getElem_cons_zero]
  refine wpAnyH_take (i := 9) (v := .slice p' n cap) rfl (by kernel_rfl) (by kernel_rfl) (by kernel_rfl) (fun _ _ _ h => h) (Or.inl ⟨by rfl, by intro w hSw; go_simp⟩) hH ?_
  try simp only [Act.put, List.setIfInBounds_toArray, List.set_cons_zero, List.set_cons_succ]
  refine wpAnyH_take (i := 10) (v := .bool true) rfl (by kernel_rfl) (by kernel_rfl) (by kernel_rfl) (fun _ _ _ h => h) (Or.inl ⟨by rfl, by intro w hSw; go_simp⟩) hH ?_
  try simp only [Act.put, List.setIfInBounds_toArray, List.set_cons_zero, List.set_cons_succ]
  refine wpAnyH_done (by kernel_rfl) ?_ _
  change Exit.then _ _ Exit.normal { tmps := #[.agg H, .slice p n c, .pointer (some ⟨w.heap.size, 0, none⟩), undef, .pointer (some ⟨w.heap.size + 1, 0, none⟩), .pointer (some ⟨w.heap.size + 1 + 1, 0, none⟩), .slice p' n cap, .bool true, .pointer (some ⟨w3.heap.size, 0, none⟩), .agg H, .bool true, .bool false, .bool false, .pointer (some ⟨w.heap.size, 33, none⟩), .int .i64 0, .bool false, .bool false, .bool false, .slice p n c, .int .i64 n, .bool false, .bool false, undef, undef, .agg H, .slice p n c, .agg C, .agg C, .agg H, .agg C, .agg H2, .slice p n c, .agg C, .slice p' n cap], defers := [] } _
  go_wp2_with fail
  have f1 : ((w5.setRow (w.heap.size + 1) C).setRow (w.heap.size + 1 + 1) H2).heap[w.heap.size + 1]? = some (.cells C 38 (0, 0)) := (setRow_other _ _ _ _ (by omega)).trans (setRow_heap _ _ _ _ _ _ (below_row_at hB5 (by omega) rR.out))
  have f2 : ((w5.setRow (w.heap.size + 1) C).setRow (w.heap.size + 1 + 1) H2).heap[w.heap.size + 1 + 1]? = some (.cells H2 34 (0, 0)) := setRow_heap _ _ _ _ _ _ ((setRow_other _ _ _ _ (by omega)).trans (below_row_at hB5 (by omega) rZ.out))
  refine bodyPost_ret (v := .tuple #[.agg C, .agg H2, .slice p' n cap, .bool true]) ?_ rfl ⟨⟨p', cap, rfl, hcap, fun h0 => ?_⟩, below_row (below_row (hb.trans (hB5.mono (by omega))) (by omega) _) (by omega) _⟩
  · have L1 := run_loadVar_row (P := Tryd.prog) _ _ 38 38 C (0, 0) _ f1 Tryd.underlying38 rfl (size_commit.trans (congrArg some hC.out.1.symm))
    have L2 := run_loadVar_row (P := Tryd.prog) _ _ 34 34 H2 (0, 0) _ f2 Tryd.underlying34 rfl (info_hart hI2.out.1)
    simp [results, Tryd.results17, asAddr, L1, L2]
  · obtain ⟨g, hp, hl⟩ := HM.out h0
    have hg := hl.base
    have hg2 := hB4.size
    exact ⟨g, hp, hl.moved (by omega) ((setRow_other _ _ _ _ (by omega)).trans (setRow_other _ _ _ _ (by omega))) (by simp)⟩
end Go.Proofs.YtpiohehijkpghaaDoor
