/- For every hart and memory, what hart.Step tells that an instruction has done is what has become of them, and nothing else. The variables decode.forms and hart.immediate start as the program's text lays them. -/
import Derived.Test.YtpiohehijkpghaaDoorHartN
import Derived.Test.YtpiohehijkpghaaDoorHartI
import Derived.Test.YtpiohehijkpghaaDoorHartR
import Derived.Test.YtpiohehijkpghaaDoorCards
import Derived.Test.YtpiohehijkpghaaDoorTie
import Derived.Test.YtpiohehijkpghaaDoorHartT
import Derived.Test.YtpiohehijkpghaaDoorHartO
import Derived.Test.YtpiohehijkpghaaDoorHartU
import Derived.WalkKit
import Derived.ProofKit
import Derived.OpenShut
import Derived.Deep.DeepHandedRow
import Derived.Deep.Fields
import Derived.SizedLaws
import Derived.ChangeOld
import Derived.ChangeKeysEq
namespace Go.Proofs.YtpiohehijkpghaaDoor
open Go.RowKit
open Hy
set_option linter.unusedVariables false

/-- The four bytes of the instruction that does nothing. -/
def nop (i : Nat) : Int := if i = 0 then 19 else 0

theorem nop_hit : hit 19 19 = true := by decide +kernel
theorem nop_first : ∀ m, m < 19 → 1 ≤ m → hit m 19 = false := by decide +kernel
theorem nop_rd : (0 : Int) = rrg 19 128 (fm (kn 19) 1) := by decide +kernel
theorem nop_rs1 : (0 : Int) = rrg 19 32768 (fm (kn 19) 2) := by decide +kernel
theorem nop_rs2 : (0 : Int) = rrg 19 1048576 (fm (kn 19) 3) := by decide +kernel
theorem nop_imm : (0 : Int) = rim (fm (kn 19)) 19 := by decide +kernel

theorem known (w : World) (g : Nat) (hl : Lies w g 0 4 nop) (hT : Tab w) (hT2 : Tab2 w) :
    Calls Tryd.prog 17 #[hv (fun _ => 0) 0 0 0, .slice (some ⟨g, 0, none⟩) 4 4] w fun e w' => (∃ C1 H1 p' cap, e = .returned (.tuple #[.agg C1, .agg H1, .slice p' 4 cap, .bool true]) ∧ (C1.size = 11 ∧ Ones C1) ∧ (H1.size = 35 ∧ Ones H1 ∧ H1[32]? = some (.int .u32 4))) ∧ Below w.heap.size w w' := by
  have hb0 := hT.size
  have hb1 := hT2.size
  have hnf : ∀ i, i < 4 → 0 ≤ nop i ∧ nop i ≤ 255 := fun i _ => by unfold nop; split <;> omega
  have o : Ok w (fun _ => 0) 0 (some ⟨g, 0, none⟩) 4 4 nop := ⟨rfl, fun i _ => ⟨Int.le_refl _, by omega⟩, by omega, by omega, by omega, by omega, fun _ => ⟨g, 0, rfl, hl⟩, hnf, hT, hT2⟩
  have CL : ∀ W, Below w.heap.size w W → Calls Tryd.prog 52 #[.slice (some ⟨g, 0, none⟩) 4 4, .int .i64 13, .int .u32 0] W fun e w' => e = .returned (.tuple #[.int .u32 19, .bool true]) ∧ w' = W := fun W hW =>
    Load_any g 0 4 4 13 0 4 nop rfl (by omega) (by omega) (by omega) (by omega) (by omega) (by omega) W hnf (hl.below hW)
  have CD : ∀ W, Below w.heap.size w W → Calls Tryd.prog 11 #[.int .u32 19] W fun e w' => e = .returned (.tuple #[iv 19 ((0 : Nat) : Int) ((0 : Nat) : Int) ((0 : Nat) : Int) 0, .bool true]) ∧ Below W.heap.size W w' := fun W hW =>
    Decode_v 19 19 (by omega) (by omega) (by omega) (by omega) nop_hit (fun m h1 h2 => nop_first m h2 h1) 19 ((0 : Nat) : Int) ((0 : Nat) : Int) ((0 : Nat) : Int) 0 ⟨rfl, nop_rd, nop_rs1, nop_rs2, nop_imm⟩ W (hT.below hW hb0)
  have hEff : allW 4 nop ⟨19, 0, 0, 0, 0⟩ 0 0 0 = ⟨0, 4, 0, 0, 0, 0, 0, 0, 0, false, 0⟩ := by
    rw [allW_rest 4 nop ⟨19, 0, 0, 0, 0⟩ 0 0 0 (by decide) (by decide) (by decide), nxW_on ⟨19, 0, 0, 0, 0⟩ 0 0 0 (by decide) (by decide) (holds_none _ _ _ (by decide) (by decide) (by decide) (by decide) (by decide) (by decide))]
    exact giveC_no _ _ _ rfl
  have CC : ∀ W, Below w.heap.size w W → Calls Tryd.prog 33 #[hv (fun _ => 0) 0 0 0, .slice (some ⟨g, 0, none⟩) 4 4] W fun e w' => e = .returned (cv 0 4 0 0 0 0 0 0 0 false 0) ∧ Below W.heap.size W w' := fun W hW => by
    have h := hcommit_yes (hcs (fun _ => 0) 0 0 0) 0 (some ⟨g, 0, none⟩) 4 4 W 19 19 0 0 0 0 0 0 0 0 _ rfl rfl rfl (by omega) (by omega) (cC_ok _) (fun W' hW' => CL W' (under hW hW')) (fun W' hW' => CD W' (under hW hW')) (fun W' => hReads_any ⟨19, 0, 0, 0, 0⟩ W')
      (fun W' hW' => hDo_any ⟨19, 0, 0, 0, 0⟩ ⟨by decide, by decide, by decide, by decide, by decide, by decide, by decide⟩ 0 0 0 (by omega) (by omega) (by omega) (by omega) (by omega) (by omega) W' (o.bys.below (under hW hW')) (hT2.below (under hW hW') hb1))
    rw [hEff] at h
    exact h
  have dd : Does 4 4 0 0 0 0 0 0 0 0 0 0 := ⟨rfl, rfl, rfl, by omega, fun _ => rfl, .inl ⟨rfl, rfl⟩, .inl rfl, by omega, by omega, by omega, by omega, by omega, by omega⟩
  refine (stepP o dd CC w (Below.refl _ _)).mono fun e w' ⟨⟨p', cap, he, _, _⟩, hb⟩ => ⟨⟨_, _, p', cap, he, ⟨rfl, ones_ccs _ _ _ _ _ _ _ _ _ _ _⟩, rfl, hcs_ones _ _ _ _, rfl⟩, hb⟩
end Go.Proofs.YtpiohehijkpghaaDoor
namespace Go.Proofs.YtpiohehijkpghaaDoor
open Go.RowKit
open Hy
set_option linter.unusedVariables false
set_option linter.unusedSimpArgs false

set_option maxRecDepth 20000 in
set_option maxHeartbeats 4000000 in
theorem tells_yes (H H2 C : Array Value) (pc ri mi : Int) (p : Option Addr) (n c : Nat) (f' : Nat → Int) (w : World) (hI : Hid (H.size = 35)) (hI2 : Hid (H2.size = 35 ∧ Ones H2)) (hC : Hid (C.size = 11 ∧ Ones C))
    (h32 : H[32]? = some (.int .u32 pc)) (c0 : C[0]? = some (.int .u32 pc)) (c4 : C[4]? = some (.int .i64 ri)) (c7 : C[7]? = some (.int .i64 mi)) (r0 : 0 ≤ ri) (r1 : ri ≤ 31) (m0 : 0 ≤ mi) (m1 : mi ≤ 4) (hT : Tab w) (hT2 : Tab2 w)
    (q34 : ∀ w, (binOp .eql 34 (.agg H2) (.agg H2)).run Tryd.prog w = .ok (.bool true) w)
    (CM2 : ∀ W, Calls Tryd.prog 15 #[.agg H2] W fun e w' => e = .returned (.bool true) ∧ Below W.heap.size W w')
    (CK : ∀ W g, Lies W g 0 4 nop → Below w.heap.size w W → Calls Tryd.prog 17 #[hv (fun _ => 0) 0 0 0, .slice (some ⟨g, 0, none⟩) 4 4] W fun e w' => (∃ C1 H1 p' cap, e = .returned (.tuple #[.agg C1, .agg H1, .slice p' 4 cap, .bool true]) ∧ (C1.size = 11 ∧ Ones C1) ∧ (H1.size = 35 ∧ Ones H1 ∧ H1[32]? = some (.int .u32 4))) ∧ Below W.heap.size W w')
    (CS : ∀ W, Below w.heap.size w W → Calls Tryd.prog 17 #[.agg H, .slice p n c] W fun e w' => (∃ p' cap, e = .returned (.tuple #[.agg C, .agg H2, .slice p' n cap, .bool true]) ∧ n ≤ cap ∧ Own w' W.heap.size p' n f') ∧ Below W.heap.size W w')
    (CY : ∀ W, Below w.heap.size w W → Calls Tryd.prog 20 #[.agg H, .slice p n c, .agg C] W fun e w' => (∃ p' cap, e = .returned (.tuple #[.agg H2, .slice p' n cap]) ∧ Own w' W.heap.size p' n f') ∧ Below W.heap.size W w') :
    Calls Tryd.prog 7 #[.agg H, .slice p n c] w fun e w' => e = .returned (.bool true) ∧ Below w.heap.size w w' := by
  go_enter Tryd.func7, Tryd.ntmps7
  go_wp2_with fail
  refine (CK _ (w.heap.size + 1) (fun i hi => ?_) (((Below.refl _ _).alloc (Nat.le_refl _) _).alloc (by simp) _)).mono ?_
  · rcases (by omega : i = 0 ∨ i = 1 ∨ i = 2 ∨ i = 3) with rfl | rfl | rfl | rfl
    all_goals (rw [cell_of_row _ _ _ _ _ _ (heap_alloc2_new _ _ _)]; rfl)
  rintro e w2 ⟨⟨C1, H1, p1, cap1, rfl, hC1, hH1⟩, hk⟩
  have hs := hk.size
  simp at hs
  have R34 : Hid (w2.heap[w.heap.size]? = some (.cells H 34 (0, 0))) := (hk.block _ (by simp; omega)).trans (heap_alloc2_old _ _ _)
  have hb2 : Below w.heap.size w w2 := (((Below.refl _ _).alloc (Nat.le_refl _) _).alloc (by simp) _).trans (hk.mono (by simp; omega))
  have hs2 : w.heap.size + 1 < w2.heap.size := by omega
  have HC1 : Hid (C1.size = 11 ∧ Ones C1) := hC1
  have HH1 : Hid (H1.size = 35 ∧ Ones H1) := ⟨hH1.1, hH1.2.1⟩
  have h132 := hH1.2.2
  clear hk CK hs hC1 hH1
  go_upto_region 2 with (first | (refine wpList_store_row rfl 38 _ _ rfl _ _ rfl rfl 38 _ (heap_alloc2_old _ _ _) (size_commit.trans (congrArg some HC1.out.1.symm)) HC1.out.1.symm HC1.out.2 ?_) | (refine wpList_store_row rfl 34 _ _ rfl _ _ rfl rfl 34 _ ((setRow_other _ _ _ _ (by omega)).trans (heap_alloc2_new _ _ _)) (info_hart HH1.out.1) HH1.out.1.symm HH1.out.2 ?_))
  try simp only [Act.put]
  obtain ⟨W, hW⟩ : ∃ W : World, W = ((((w2.alloc (.cells (ccs 0 0 0 0 0 0 0 0 0 false 0) 38)).alloc (.cells (hcs (fun _ => 0) 0 0 0) 34)).setRow w2.heap.size C1).setRow (w2.heap.size + 1) H1) := ⟨_, rfl⟩
  rw [← hW]
  have r1 : W.heap[w2.heap.size + 1]? = some (.cells H1 34 (0, 0)) := by rw [hW]; exact setRow_heap _ _ _ _ _ _ ((setRow_other _ _ _ _ (by omega)).trans (heap_alloc2_new _ _ _))
  have R34 : Hid (W.heap[w.heap.size]? = some (.cells H 34 (0, 0))) := by rw [hW]; exact (setRow_other _ _ _ _ (by omega)).trans ((setRow_other _ _ _ _ (by omega)).trans (row_up R34.out _ _))
  have hb : Below w.heap.size w W := by rw [hW]; exact below_row (below_row ((hb2.alloc (by omega) _).alloc (by simp; omega) _) (by omega) _) (by omega) _
  have hsz : w.heap.size + 1 < W.heap.size := by rw [hW]; simp; omega
  have k4 := (cell_of_row W (w2.heap.size + 1) 32 _ _ _ r1).trans h132
  clear hW r1 hb2 h132 HC1 HH1
  go_wp2_with (refine wpList_load_row rfl 34 _ rfl _ rfl 34 _ (0, 0) _ R34.out Tryd.underlying34 rfl (info_hart hI.out) ?_)
  refine (CS _ hb).mono ?_
  rintro e w4 ⟨⟨p', cap, rfl, hcap, hM⟩, hk4⟩
  have hs4' := hk4.size
  have R34 : Hid (w4.heap[w.heap.size]? = some (.cells H 34 (0, 0))) := (hk4.block _ (by omega)).trans R34.out
  have hb4 : Below w.heap.size w w4 := hb.trans (hk4.mono (by omega))
  have hs4 : w.heap.size + 1 < w4.heap.size := by omega
  have HM : Hid (Mem w4 p' n f') := hM.mem
  clear hk4 CS hs4' hb hsz k4 hM
  go_upto_region 5 with (first | (refine wpList_store_row rfl 38 _ _ rfl _ _ rfl rfl 38 _ (heap_alloc2_old _ _ _) (size_commit.trans (congrArg some hC.out.1.symm)) hC.out.1.symm hC.out.2 ?_) | (refine wpList_store_row rfl 34 _ _ rfl _ _ rfl rfl 34 _ ((setRow_other _ _ _ _ (by omega)).trans (heap_alloc2_new _ _ _)) (info_hart hI2.out.1) hI2.out.1.symm hI2.out.2 ?_))
  try simp only [Act.put]
  obtain ⟨W, hW⟩ : ∃ W : World, W = ((((w4.alloc (.cells (ccs 0 0 0 0 0 0 0 0 0 false 0) 38)).alloc (.cells (hcs (fun _ => 0) 0 0 0) 34)).setRow w4.heap.size C).setRow (w4.heap.size + 1) H2) := ⟨_, rfl⟩
  rw [← hW]
  have rC : W.heap[w4.heap.size]? = some (.cells C 38 (0, 0)) := by rw [hW]; exact (setRow_other _ _ _ _ (by omega)).trans (setRow_heap _ _ _ _ _ _ (heap_alloc2_old _ _ _))
  have rX : W.heap[w4.heap.size + 1]? = some (.cells H2 34 (0, 0)) := by rw [hW]; exact setRow_heap _ _ _ _ _ _ ((setRow_other _ _ _ _ (by omega)).trans (heap_alloc2_new _ _ _))
  have rH : W.heap[w.heap.size]? = some (.cells H 34 (0, 0)) := by rw [hW]; exact (setRow_other _ _ _ _ (by omega)).trans ((setRow_other _ _ _ _ (by omega)).trans (row_up R34.out _ _))
  have hb : Below w.heap.size w W := by rw [hW]; exact below_row (below_row ((hb4.alloc (by omega) _).alloc (by simp; omega) _) (by omega) _) (by omega) _
  have hbm : Below w4.heap.size w4 W := by rw [hW]; exact below_row (below_row (((Below.refl _ _).alloc (Nat.le_refl _) _).alloc (by simp) _) (Nat.le_refl _) _) (by omega) _
  have hsz : w4.heap.size + 1 < W.heap.size := by rw [hW]; simp
  have HM : Hid (Mem W p' n f') := HM.out.below hbm
  have k32 := (cell_of_row W w.heap.size 32 _ _ _ rH).trans h32
  have kc0 := (cell_of_row W w4.heap.size 0 _ _ _ rC).trans c0
  have RH : Hid (W.heap[w.heap.size]? = some (.cells H 34 (0, 0))) := rH
  have RX : Hid (W.heap[w4.heap.size + 1]? = some (.cells H2 34 (0, 0))) := rX
  have RC : Hid (W.heap[w4.heap.size]? = some (.cells C 38 (0, 0))) := rC
  clear hW rH rX rC hb4 hbm R34 h32
  go_upto_region 7 with fail
  go_wp2_with (refine wpList_load_row_g (by rfl) 34 _ rfl _ rfl 34 H2 (0, 0) _ RX.out Tryd.underlying34 rfl (info_hart hI2.out.1) ?_)
  refine (CM2 _).mono ?_
  rintro e w5 ⟨rfl, hk5⟩
  have hs5 := hk5.size
  have RH : Hid (w5.heap[w.heap.size]? = some (.cells H 34 (0, 0))) := (hk5.block _ (by omega)).trans RH.out
  have RX : Hid (w5.heap[w4.heap.size + 1]? = some (.cells H2 34 (0, 0))) := (hk5.block _ (by omega)).trans RX.out
  have RC : Hid (w5.heap[w4.heap.size]? = some (.cells C 38 (0, 0))) := (hk5.block _ (by omega)).trans RC.out
  have kc4 := (cell_of_row w5 w4.heap.size 4 _ _ _ RC.out).trans c4
  have kc7 := (cell_of_row w5 w4.heap.size 7 _ _ _ RC.out).trans c7
  have hb5 : Below w.heap.size w w5 := hb.trans (hk5.mono (by omega))
  have HM : Hid (Mem w5 p' n f') := HM.out.below hk5
  have y1 : decide (ri < 0) = false := decide_eq_false (by omega)
  have y2 : decide (31 < ri) = false := decide_eq_false (by omega)
  have y3 : decide (mi < 0) = false := decide_eq_false (by omega)
  have y4 : decide (4 < mi) = false := decide_eq_false (by omega)
  clear hk5 CM2 hb k32 kc0
  go_upto_region 9 with fail
  go_wp2_with (first | (refine wpList_load_row rfl 34 _ rfl _ rfl 34 H (0, 0) _ RH.out Tryd.underlying34 rfl (info_hart hI.out) ?_) | (refine wpList_load_row rfl 38 _ rfl _ rfl 38 C (0, 0) _ RC.out Tryd.underlying38 rfl (size_commit.trans (congrArg some hC.out.1.symm)) ?_))
  refine (CY _ hb5).mono ?_
  rintro e w6 ⟨⟨p2, cap2, rfl, hM2⟩, hk6⟩
  have hs6 := hk6.size
  have RX : Hid (w6.heap[w4.heap.size + 1]? = some (.cells H2 34 (0, 0))) := (hk6.block _ (by omega)).trans RX.out
  have hb6 : Below w.heap.size w w6 := hb5.trans (hk6.mono (by omega))
  have HM : Hid (Mem w6 p' n f') := HM.out.below hk6
  have HM2 : Hid (Mem w6 p2 n f') := hM2.mem
  have hs7 : w4.heap.size + 1 < w6.heap.size := by omega
  clear hk6 CY hM2 hb5 kc4 kc7 RH RC
  go_upto_region 10 with (refine wpList_store_row rfl 34 _ _ rfl _ _ rfl rfl 34 _ (heap_alloc_new _ _) (info_hart hI2.out.1) hI2.out.1.symm hI2.out.2 ?_)
  try simp only [Act.put]
  rw [World.setRow_alloc_new]
  have rY : Hid ((w6.alloc (.cells H2 34)).heap[w6.heap.size]? = some (.cells H2 34 (0, 0))) := heap_alloc_new _ _
  have rX' : Hid ((w6.alloc (.cells H2 34)).heap[w4.heap.size + 1]? = some (.cells H2 34 (0, 0))) := (Below.heap_alloc _ _ _ (by omega)).trans RX.out
  have hA := (Below.refl w6.heap.size w6).alloc (Nat.le_refl _) (.cells H2 34)
  have CB := Bytes_same p' p2 n cap cap2 ((List.range n).map f') (by simp) (w6.alloc (.cells H2 34)) (HM.out.below hA).bytes (HM2.out.below hA).bytes
  go_wp2_with (first | (refine wpList_load_row rfl 34 _ rfl _ rfl 34 H2 (0, 0) _ rX'.out Tryd.underlying34 rfl (info_hart hI2.out.1) ?_) | (refine wpList_load_row rfl 34 _ rfl _ rfl 34 H2 (0, 0) _ rY.out Tryd.underlying34 rfl (info_hart hI2.out.1) ?_))
  refine CB.mono ?_
  rintro e w' ⟨rfl, rfl⟩
  go_wp2_with fail
  go_ret
  exact ⟨rfl, hb6.alloc (by omega) _⟩
end Go.Proofs.YtpiohehijkpghaaDoor
namespace Go.Proofs.YtpiohehijkpghaaDoor
open Go.RowKit
open Hy
set_option linter.unusedVariables false
set_option linter.unusedSimpArgs false

set_option maxRecDepth 20000 in
set_option maxHeartbeats 4000000 in
theorem tells_may (H : Array Value) (st : Int) (p : Option Addr) (n c : Nat) (w : World) (hI : Hid (H.size = 35)) (h33 : H[33]? = some (.int .i64 st))
    (CK : ∀ W g, Lies W g 0 4 nop → Below w.heap.size w W → Calls Tryd.prog 17 #[hv (fun _ => 0) 0 0 0, .slice (some ⟨g, 0, none⟩) 4 4] W fun e w' => (∃ C1 H1 p' cap, e = .returned (.tuple #[.agg C1, .agg H1, .slice p' 4 cap, .bool true]) ∧ (C1.size = 11 ∧ Ones C1) ∧ (H1.size = 35 ∧ Ones H1 ∧ H1[32]? = some (.int .u32 4))) ∧ Below W.heap.size W w')
    (CM : ∀ W, Calls Tryd.prog 15 #[.agg H] W fun e w' => e = .returned (.bool false) ∧ Below W.heap.size W w')
    (CS : ∀ W, Calls Tryd.prog 17 #[.agg H, .slice p n c] W fun e w' => e = .returned (.tuple #[cv 0 0 0 0 0 0 0 0 0 false 0, hv (fun _ => 0) 0 0 0, .slice none 0 0, .bool false]) ∧ Below W.heap.size W w') :
    Calls Tryd.prog 7 #[.agg H, .slice p n c] w fun e w' => e = .returned (.bool true) ∧ Below w.heap.size w w' := by
  have q34 := eql0h
  go_enter Tryd.func7, Tryd.ntmps7
  go_wp2_with fail
  refine (CK _ (w.heap.size + 1) (fun i hi => ?_) (((Below.refl _ _).alloc (Nat.le_refl _) _).alloc (by simp) _)).mono ?_
  · rcases (by omega : i = 0 ∨ i = 1 ∨ i = 2 ∨ i = 3) with rfl | rfl | rfl | rfl
    all_goals (rw [cell_of_row _ _ _ _ _ _ (heap_alloc2_new _ _ _)]; rfl)
  rintro e w2 ⟨⟨C1, H1, p1, cap1, rfl, hC1, hH1⟩, hk⟩
  have hs := hk.size
  simp at hs
  have R34 : Hid (w2.heap[w.heap.size]? = some (.cells H 34 (0, 0))) := (hk.block _ (by simp; omega)).trans (heap_alloc2_old _ _ _)
  have hb2 : Below w.heap.size w w2 := (((Below.refl _ _).alloc (Nat.le_refl _) _).alloc (by simp) _).trans (hk.mono (by simp; omega))
  have hs2 : w.heap.size + 1 < w2.heap.size := by omega
  have HC1 : Hid (C1.size = 11 ∧ Ones C1) := hC1
  have HH1 : Hid (H1.size = 35 ∧ Ones H1) := ⟨hH1.1, hH1.2.1⟩
  have h132 := hH1.2.2
  clear hk CK hs hC1 hH1
  go_upto_region 2 with (first | (refine wpList_store_row rfl 38 _ _ rfl _ _ rfl rfl 38 _ (heap_alloc2_old _ _ _) (size_commit.trans (congrArg some HC1.out.1.symm)) HC1.out.1.symm HC1.out.2 ?_) | (refine wpList_store_row rfl 34 _ _ rfl _ _ rfl rfl 34 _ ((setRow_other _ _ _ _ (by omega)).trans (heap_alloc2_new _ _ _)) (info_hart HH1.out.1) HH1.out.1.symm HH1.out.2 ?_))
  try simp only [Act.put]
  obtain ⟨W, hW⟩ : ∃ W : World, W = ((((w2.alloc (.cells (ccs 0 0 0 0 0 0 0 0 0 false 0) 38)).alloc (.cells (hcs (fun _ => 0) 0 0 0) 34)).setRow w2.heap.size C1).setRow (w2.heap.size + 1) H1) := ⟨_, rfl⟩
  rw [← hW]
  have r1 : W.heap[w2.heap.size + 1]? = some (.cells H1 34 (0, 0)) := by rw [hW]; exact setRow_heap _ _ _ _ _ _ ((setRow_other _ _ _ _ (by omega)).trans (heap_alloc2_new _ _ _))
  have R34 : Hid (W.heap[w.heap.size]? = some (.cells H 34 (0, 0))) := by rw [hW]; exact (setRow_other _ _ _ _ (by omega)).trans ((setRow_other _ _ _ _ (by omega)).trans (row_up R34.out _ _))
  have hb : Below w.heap.size w W := by rw [hW]; exact below_row (below_row ((hb2.alloc (by omega) _).alloc (by simp; omega) _) (by omega) _) (by omega) _
  have hsz : w.heap.size + 1 < W.heap.size := by rw [hW]; simp; omega
  have k4 := (cell_of_row W (w2.heap.size + 1) 32 _ _ _ r1).trans h132
  clear hW r1 hb2 h132 HC1 HH1
  go_wp2_with (refine wpList_load_row rfl 34 _ rfl _ rfl 34 _ (0, 0) _ R34.out Tryd.underlying34 rfl (info_hart hI.out) ?_)
  refine (CS _).mono ?_
  rintro e w4 ⟨rfl, hk4⟩
  have hs4' := hk4.size
  have R34 : Hid (w4.heap[w.heap.size]? = some (.cells H 34 (0, 0))) := (hk4.block _ (by omega)).trans R34.out
  have hb4 : Below w.heap.size w w4 := hb.trans (hk4.mono (by omega))
  have hs4 : w.heap.size + 1 < w4.heap.size := by omega
  clear hk4 CS hs4' hb hsz k4
  go_upto_region 5 with (first | (refine wpList_store_row rfl 38 _ _ rfl _ _ rfl rfl 38 _ (heap_alloc2_old _ _ _) size_commit rfl (ones_ccs _ _ _ _ _ _ _ _ _ _ _) ?_) | (refine wpList_store_row rfl 34 _ _ rfl _ _ rfl rfl 34 _ ((setRow_other _ _ _ _ (by omega)).trans (heap_alloc2_new _ _ _)) size_hart rfl ones_zero ?_))
  try simp only [Act.put]
  obtain ⟨W, hW⟩ : ∃ W : World, W = ((((w4.alloc (.cells (ccs 0 0 0 0 0 0 0 0 0 false 0) 38)).alloc (.cells (hcs (fun _ => 0) 0 0 0) 34)).setRow w4.heap.size (ccs 0 0 0 0 0 0 0 0 0 false 0)).setRow (w4.heap.size + 1) (hcs (fun _ => 0) 0 0 0)) := ⟨_, rfl⟩
  rw [← hW]
  have RX : Hid (W.heap[w4.heap.size + 1]? = some (.cells (hcs (fun _ => 0) 0 0 0) 34 (0, 0))) := by rw [hW]; exact setRow_heap _ _ _ _ _ _ ((setRow_other _ _ _ _ (by omega)).trans (heap_alloc2_new _ _ _))
  have RH : Hid (W.heap[w.heap.size]? = some (.cells H 34 (0, 0))) := by rw [hW]; exact (setRow_other _ _ _ _ (by omega)).trans ((setRow_other _ _ _ _ (by omega)).trans (row_up R34.out _ _))
  have hb : Below w.heap.size w W := by rw [hW]; exact below_row (below_row ((hb4.alloc (by omega) _).alloc (by simp; omega) _) (by omega) _) (by omega) _
  have hsz : w.heap.size + 1 < W.heap.size := by rw [hW]; simp; omega
  clear hW hb4 R34
  go_upto_region 6 with fail
  go_wp2_with (first | (refine wpList_load_row rfl 34 _ rfl _ rfl 34 (hcs (fun _ => 0) 0 0 0) (0, 0) _ RX.out Tryd.underlying34 rfl size_hart ?_) | (refine wpList_load_row_g (by rfl) 34 _ rfl _ rfl 34 H (0, 0) _ RH.out Tryd.underlying34 rfl (info_hart hI.out) ?_))
  refine (CM _).mono ?_
  rintro e w5 ⟨rfl, hk5⟩
  have hs5 := hk5.size
  have RH : Hid (w5.heap[w.heap.size]? = some (.cells H 34 (0, 0))) := (hk5.block _ (by omega)).trans RH.out
  have k33 := (cell_of_row w5 w.heap.size 33 _ _ _ RH.out).trans h33
  have hb5 : Below w.heap.size w w5 := hb.trans (hk5.mono (by omega))
  clear hk5 CM hb h33
  go_wp2_with fail
  go_ret
  exact ⟨rfl, hb5⟩

set_option maxRecDepth 20000 in
set_option maxHeartbeats 4000000 in
theorem tells_runs (H : Array Value) (st : Int) (p : Option Addr) (n c : Nat) (w : World) (hI : Hid (H.size = 35)) (h33 : H[33]? = some (.int .i64 st)) (hz : (st != 0) = true)
    (CK : ∀ W g, Lies W g 0 4 nop → Below w.heap.size w W → Calls Tryd.prog 17 #[hv (fun _ => 0) 0 0 0, .slice (some ⟨g, 0, none⟩) 4 4] W fun e w' => (∃ C1 H1 p' cap, e = .returned (.tuple #[.agg C1, .agg H1, .slice p' 4 cap, .bool true]) ∧ (C1.size = 11 ∧ Ones C1) ∧ (H1.size = 35 ∧ Ones H1 ∧ H1[32]? = some (.int .u32 4))) ∧ Below W.heap.size W w')
    (CM : ∀ W, Calls Tryd.prog 15 #[.agg H] W fun e w' => e = .returned (.bool true) ∧ Below W.heap.size W w')
    (CS : ∀ W, Calls Tryd.prog 17 #[.agg H, .slice p n c] W fun e w' => e = .returned (.tuple #[cv 0 0 0 0 0 0 0 0 0 false 0, hv (fun _ => 0) 0 0 0, .slice none 0 0, .bool false]) ∧ Below W.heap.size W w') :
    Calls Tryd.prog 7 #[.agg H, .slice p n c] w fun e w' => e = .returned (.bool true) ∧ Below w.heap.size w w' := by
  have q34 := eql0h
  go_enter Tryd.func7, Tryd.ntmps7
  go_wp2_with fail
  refine (CK _ (w.heap.size + 1) (fun i hi => ?_) (((Below.refl _ _).alloc (Nat.le_refl _) _).alloc (by simp) _)).mono ?_
  · rcases (by omega : i = 0 ∨ i = 1 ∨ i = 2 ∨ i = 3) with rfl | rfl | rfl | rfl
    all_goals (rw [cell_of_row _ _ _ _ _ _ (heap_alloc2_new _ _ _)]; rfl)
  rintro e w2 ⟨⟨C1, H1, p1, cap1, rfl, hC1, hH1⟩, hk⟩
  have hs := hk.size
  simp at hs
  have R34 : Hid (w2.heap[w.heap.size]? = some (.cells H 34 (0, 0))) := (hk.block _ (by simp; omega)).trans (heap_alloc2_old _ _ _)
  have hb2 : Below w.heap.size w w2 := (((Below.refl _ _).alloc (Nat.le_refl _) _).alloc (by simp) _).trans (hk.mono (by simp; omega))
  have hs2 : w.heap.size + 1 < w2.heap.size := by omega
  have HC1 : Hid (C1.size = 11 ∧ Ones C1) := hC1
  have HH1 : Hid (H1.size = 35 ∧ Ones H1) := ⟨hH1.1, hH1.2.1⟩
  have h132 := hH1.2.2
  clear hk CK hs hC1 hH1
  go_upto_region 2 with (first | (refine wpList_store_row rfl 38 _ _ rfl _ _ rfl rfl 38 _ (heap_alloc2_old _ _ _) (size_commit.trans (congrArg some HC1.out.1.symm)) HC1.out.1.symm HC1.out.2 ?_) | (refine wpList_store_row rfl 34 _ _ rfl _ _ rfl rfl 34 _ ((setRow_other _ _ _ _ (by omega)).trans (heap_alloc2_new _ _ _)) (info_hart HH1.out.1) HH1.out.1.symm HH1.out.2 ?_))
  try simp only [Act.put]
  obtain ⟨W, hW⟩ : ∃ W : World, W = ((((w2.alloc (.cells (ccs 0 0 0 0 0 0 0 0 0 false 0) 38)).alloc (.cells (hcs (fun _ => 0) 0 0 0) 34)).setRow w2.heap.size C1).setRow (w2.heap.size + 1) H1) := ⟨_, rfl⟩
  rw [← hW]
  have r1 : W.heap[w2.heap.size + 1]? = some (.cells H1 34 (0, 0)) := by rw [hW]; exact setRow_heap _ _ _ _ _ _ ((setRow_other _ _ _ _ (by omega)).trans (heap_alloc2_new _ _ _))
  have R34 : Hid (W.heap[w.heap.size]? = some (.cells H 34 (0, 0))) := by rw [hW]; exact (setRow_other _ _ _ _ (by omega)).trans ((setRow_other _ _ _ _ (by omega)).trans (row_up R34.out _ _))
  have hb : Below w.heap.size w W := by rw [hW]; exact below_row (below_row ((hb2.alloc (by omega) _).alloc (by simp; omega) _) (by omega) _) (by omega) _
  have hsz : w.heap.size + 1 < W.heap.size := by rw [hW]; simp; omega
  have k4 := (cell_of_row W (w2.heap.size + 1) 32 _ _ _ r1).trans h132
  clear hW r1 hb2 h132 HC1 HH1
  go_wp2_with (refine wpList_load_row rfl 34 _ rfl _ rfl 34 _ (0, 0) _ R34.out Tryd.underlying34 rfl (info_hart hI.out) ?_)
  refine (CS _).mono ?_
  rintro e w4 ⟨rfl, hk4⟩
  have hs4' := hk4.size
  have R34 : Hid (w4.heap[w.heap.size]? = some (.cells H 34 (0, 0))) := (hk4.block _ (by omega)).trans R34.out
  have hb4 : Below w.heap.size w w4 := hb.trans (hk4.mono (by omega))
  have hs4 : w.heap.size + 1 < w4.heap.size := by omega
  clear hk4 CS hs4' hb hsz k4
  go_upto_region 5 with (first | (refine wpList_store_row rfl 38 _ _ rfl _ _ rfl rfl 38 _ (heap_alloc2_old _ _ _) size_commit rfl (ones_ccs _ _ _ _ _ _ _ _ _ _ _) ?_) | (refine wpList_store_row rfl 34 _ _ rfl _ _ rfl rfl 34 _ ((setRow_other _ _ _ _ (by omega)).trans (heap_alloc2_new _ _ _)) size_hart rfl ones_zero ?_))
  try simp only [Act.put]
  obtain ⟨W, hW⟩ : ∃ W : World, W = ((((w4.alloc (.cells (ccs 0 0 0 0 0 0 0 0 0 false 0) 38)).alloc (.cells (hcs (fun _ => 0) 0 0 0) 34)).setRow w4.heap.size (ccs 0 0 0 0 0 0 0 0 0 false 0)).setRow (w4.heap.size + 1) (hcs (fun _ => 0) 0 0 0)) := ⟨_, rfl⟩
  rw [← hW]
  have RX : Hid (W.heap[w4.heap.size + 1]? = some (.cells (hcs (fun _ => 0) 0 0 0) 34 (0, 0))) := by rw [hW]; exact setRow_heap _ _ _ _ _ _ ((setRow_other _ _ _ _ (by omega)).trans (heap_alloc2_new _ _ _))
  have RH : Hid (W.heap[w.heap.size]? = some (.cells H 34 (0, 0))) := by rw [hW]; exact (setRow_other _ _ _ _ (by omega)).trans ((setRow_other _ _ _ _ (by omega)).trans (row_up R34.out _ _))
  have hb : Below w.heap.size w W := by rw [hW]; exact below_row (below_row ((hb4.alloc (by omega) _).alloc (by simp; omega) _) (by omega) _) (by omega) _
  have hsz : w.heap.size + 1 < W.heap.size := by rw [hW]; simp; omega
  clear hW hb4 R34
  go_upto_region 6 with fail
  go_wp2_with (first | (refine wpList_load_row rfl 34 _ rfl _ rfl 34 (hcs (fun _ => 0) 0 0 0) (0, 0) _ RX.out Tryd.underlying34 rfl size_hart ?_) | (refine wpList_load_row_g (by rfl) 34 _ rfl _ rfl 34 H (0, 0) _ RH.out Tryd.underlying34 rfl (info_hart hI.out) ?_))
  refine (CM _).mono ?_
  rintro e w5 ⟨rfl, hk5⟩
  have hs5 := hk5.size
  have RH : Hid (w5.heap[w.heap.size]? = some (.cells H 34 (0, 0))) := (hk5.block _ (by omega)).trans RH.out
  have k33 := (cell_of_row w5 w.heap.size 33 _ _ _ RH.out).trans h33
  have hb5 : Below w.heap.size w w5 := hb.trans (hk5.mono (by omega))
  clear hk5 CM hb h33
  go_wp2_with fail
  go_ret
  exact ⟨rfl, hb5⟩

set_option maxRecDepth 20000 in
set_option maxHeartbeats 4000000 in
theorem tells_long (H : Array Value) (st : Int) (p : Option Addr) (n c : Nat) (w : World) (hI : Hid (H.size = 35)) (h33 : H[33]? = some (.int .i64 st)) (hz : (st != 0) = false) (hl : decide ((4096 : Int) < (n : Int)) = true)
    (CK : ∀ W g, Lies W g 0 4 nop → Below w.heap.size w W → Calls Tryd.prog 17 #[hv (fun _ => 0) 0 0 0, .slice (some ⟨g, 0, none⟩) 4 4] W fun e w' => (∃ C1 H1 p' cap, e = .returned (.tuple #[.agg C1, .agg H1, .slice p' 4 cap, .bool true]) ∧ (C1.size = 11 ∧ Ones C1) ∧ (H1.size = 35 ∧ Ones H1 ∧ H1[32]? = some (.int .u32 4))) ∧ Below W.heap.size W w')
    (CM : ∀ W, Calls Tryd.prog 15 #[.agg H] W fun e w' => e = .returned (.bool true) ∧ Below W.heap.size W w')
    (CS : ∀ W, Calls Tryd.prog 17 #[.agg H, .slice p n c] W fun e w' => e = .returned (.tuple #[cv 0 0 0 0 0 0 0 0 0 false 0, hv (fun _ => 0) 0 0 0, .slice none 0 0, .bool false]) ∧ Below W.heap.size W w') :
    Calls Tryd.prog 7 #[.agg H, .slice p n c] w fun e w' => e = .returned (.bool true) ∧ Below w.heap.size w w' := by
  have q34 := eql0h
  go_enter Tryd.func7, Tryd.ntmps7
  go_wp2_with fail
  refine (CK _ (w.heap.size + 1) (fun i hi => ?_) (((Below.refl _ _).alloc (Nat.le_refl _) _).alloc (by simp) _)).mono ?_
  · rcases (by omega : i = 0 ∨ i = 1 ∨ i = 2 ∨ i = 3) with rfl | rfl | rfl | rfl
    all_goals (rw [cell_of_row _ _ _ _ _ _ (heap_alloc2_new _ _ _)]; rfl)
  rintro e w2 ⟨⟨C1, H1, p1, cap1, rfl, hC1, hH1⟩, hk⟩
  have hs := hk.size
  simp at hs
  have R34 : Hid (w2.heap[w.heap.size]? = some (.cells H 34 (0, 0))) := (hk.block _ (by simp; omega)).trans (heap_alloc2_old _ _ _)
  have hb2 : Below w.heap.size w w2 := (((Below.refl _ _).alloc (Nat.le_refl _) _).alloc (by simp) _).trans (hk.mono (by simp; omega))
  have hs2 : w.heap.size + 1 < w2.heap.size := by omega
  have HC1 : Hid (C1.size = 11 ∧ Ones C1) := hC1
  have HH1 : Hid (H1.size = 35 ∧ Ones H1) := ⟨hH1.1, hH1.2.1⟩
  have h132 := hH1.2.2
  clear hk CK hs hC1 hH1
  go_upto_region 2 with (first | (refine wpList_store_row rfl 38 _ _ rfl _ _ rfl rfl 38 _ (heap_alloc2_old _ _ _) (size_commit.trans (congrArg some HC1.out.1.symm)) HC1.out.1.symm HC1.out.2 ?_) | (refine wpList_store_row rfl 34 _ _ rfl _ _ rfl rfl 34 _ ((setRow_other _ _ _ _ (by omega)).trans (heap_alloc2_new _ _ _)) (info_hart HH1.out.1) HH1.out.1.symm HH1.out.2 ?_))
  try simp only [Act.put]
  obtain ⟨W, hW⟩ : ∃ W : World, W = ((((w2.alloc (.cells (ccs 0 0 0 0 0 0 0 0 0 false 0) 38)).alloc (.cells (hcs (fun _ => 0) 0 0 0) 34)).setRow w2.heap.size C1).setRow (w2.heap.size + 1) H1) := ⟨_, rfl⟩
  rw [← hW]
  have r1 : W.heap[w2.heap.size + 1]? = some (.cells H1 34 (0, 0)) := by rw [hW]; exact setRow_heap _ _ _ _ _ _ ((setRow_other _ _ _ _ (by omega)).trans (heap_alloc2_new _ _ _))
  have R34 : Hid (W.heap[w.heap.size]? = some (.cells H 34 (0, 0))) := by rw [hW]; exact (setRow_other _ _ _ _ (by omega)).trans ((setRow_other _ _ _ _ (by omega)).trans (row_up R34.out _ _))
  have hb : Below w.heap.size w W := by rw [hW]; exact below_row (below_row ((hb2.alloc (by omega) _).alloc (by simp; omega) _) (by omega) _) (by omega) _
  have hsz : w.heap.size + 1 < W.heap.size := by rw [hW]; simp; omega
  have k4 := (cell_of_row W (w2.heap.size + 1) 32 _ _ _ r1).trans h132
  clear hW r1 hb2 h132 HC1 HH1
  go_wp2_with (refine wpList_load_row rfl 34 _ rfl _ rfl 34 _ (0, 0) _ R34.out Tryd.underlying34 rfl (info_hart hI.out) ?_)
  refine (CS _).mono ?_
  rintro e w4 ⟨rfl, hk4⟩
  have hs4' := hk4.size
  have R34 : Hid (w4.heap[w.heap.size]? = some (.cells H 34 (0, 0))) := (hk4.block _ (by omega)).trans R34.out
  have hb4 : Below w.heap.size w w4 := hb.trans (hk4.mono (by omega))
  have hs4 : w.heap.size + 1 < w4.heap.size := by omega
  clear hk4 CS hs4' hb hsz k4
  go_upto_region 5 with (first | (refine wpList_store_row rfl 38 _ _ rfl _ _ rfl rfl 38 _ (heap_alloc2_old _ _ _) size_commit rfl (ones_ccs _ _ _ _ _ _ _ _ _ _ _) ?_) | (refine wpList_store_row rfl 34 _ _ rfl _ _ rfl rfl 34 _ ((setRow_other _ _ _ _ (by omega)).trans (heap_alloc2_new _ _ _)) size_hart rfl ones_zero ?_))
  try simp only [Act.put]
  obtain ⟨W, hW⟩ : ∃ W : World, W = ((((w4.alloc (.cells (ccs 0 0 0 0 0 0 0 0 0 false 0) 38)).alloc (.cells (hcs (fun _ => 0) 0 0 0) 34)).setRow w4.heap.size (ccs 0 0 0 0 0 0 0 0 0 false 0)).setRow (w4.heap.size + 1) (hcs (fun _ => 0) 0 0 0)) := ⟨_, rfl⟩
  rw [← hW]
  have RX : Hid (W.heap[w4.heap.size + 1]? = some (.cells (hcs (fun _ => 0) 0 0 0) 34 (0, 0))) := by rw [hW]; exact setRow_heap _ _ _ _ _ _ ((setRow_other _ _ _ _ (by omega)).trans (heap_alloc2_new _ _ _))
  have RH : Hid (W.heap[w.heap.size]? = some (.cells H 34 (0, 0))) := by rw [hW]; exact (setRow_other _ _ _ _ (by omega)).trans ((setRow_other _ _ _ _ (by omega)).trans (row_up R34.out _ _))
  have hb : Below w.heap.size w W := by rw [hW]; exact below_row (below_row ((hb4.alloc (by omega) _).alloc (by simp; omega) _) (by omega) _) (by omega) _
  have hsz : w.heap.size + 1 < W.heap.size := by rw [hW]; simp; omega
  clear hW hb4 R34
  go_upto_region 6 with fail
  go_wp2_with (first | (refine wpList_load_row rfl 34 _ rfl _ rfl 34 (hcs (fun _ => 0) 0 0 0) (0, 0) _ RX.out Tryd.underlying34 rfl size_hart ?_) | (refine wpList_load_row_g (by rfl) 34 _ rfl _ rfl 34 H (0, 0) _ RH.out Tryd.underlying34 rfl (info_hart hI.out) ?_))
  refine (CM _).mono ?_
  rintro e w5 ⟨rfl, hk5⟩
  have hs5 := hk5.size
  have RH : Hid (w5.heap[w.heap.size]? = some (.cells H 34 (0, 0))) := (hk5.block _ (by omega)).trans RH.out
  have k33 := (cell_of_row w5 w.heap.size 33 _ _ _ RH.out).trans h33
  have hb5 : Below w.heap.size w w5 := hb.trans (hk5.mono (by omega))
  clear hk5 CM hb h33
  go_wp2_with fail
  go_ret
  exact ⟨rfl, hb5⟩

end Go.Proofs.YtpiohehijkpghaaDoor
namespace Go.Proofs.YtpiohehijkpghaaDoor.hartTells
open Go.ChangeShapes Go.WideShapes Go.ChangeAt Go.RowKit
open Hy
set_option linter.unusedVariables false

theorem own : ownKnob Tryd.prog.godebug = none := by kernel_rfl
theorem laidOut : laidOutB Tryd.prog = true := by kernel_rfl

/-- A hart's registers by value. -/
abbrev regs (R : Nat → Int) : Array Value := #[.int .u32 (R 0), .int .u32 (R 1), .int .u32 (R 2), .int .u32 (R 3), .int .u32 (R 4), .int .u32 (R 5), .int .u32 (R 6), .int .u32 (R 7), .int .u32 (R 8), .int .u32 (R 9), .int .u32 (R 10), .int .u32 (R 11), .int .u32 (R 12), .int .u32 (R 13), .int .u32 (R 14), .int .u32 (R 15), .int .u32 (R 16), .int .u32 (R 17), .int .u32 (R 18), .int .u32 (R 19), .int .u32 (R 20), .int .u32 (R 21), .int .u32 (R 22), .int .u32 (R 23), .int .u32 (R 24), .int .u32 (R 25), .int .u32 (R 26), .int .u32 (R 27), .int .u32 (R 28), .int .u32 (R 29), .int .u32 (R 30), .int .u32 (R 31)]
theorem part_reg (R : Nat → Int) (w : World) (i : Nat) (hi : i < 32) : (part 22 (regs R) (i * 1)).run Tryd.prog w = .ok (.int .u32 (R i)) w :=
  match i, hi with
  | 0, _ => by kernel_rfl
  | 1, _ => by kernel_rfl
  | 2, _ => by kernel_rfl
  | 3, _ => by kernel_rfl
  | 4, _ => by kernel_rfl
  | 5, _ => by kernel_rfl
  | 6, _ => by kernel_rfl
  | 7, _ => by kernel_rfl
  | 8, _ => by kernel_rfl
  | 9, _ => by kernel_rfl
  | 10, _ => by kernel_rfl
  | 11, _ => by kernel_rfl
  | 12, _ => by kernel_rfl
  | 13, _ => by kernel_rfl
  | 14, _ => by kernel_rfl
  | 15, _ => by kernel_rfl
  | 16, _ => by kernel_rfl
  | 17, _ => by kernel_rfl
  | 18, _ => by kernel_rfl
  | 19, _ => by kernel_rfl
  | 20, _ => by kernel_rfl
  | 21, _ => by kernel_rfl
  | 22, _ => by kernel_rfl
  | 23, _ => by kernel_rfl
  | 24, _ => by kernel_rfl
  | 25, _ => by kernel_rfl
  | 26, _ => by kernel_rfl
  | 27, _ => by kernel_rfl
  | 28, _ => by kernel_rfl
  | 29, _ => by kernel_rfl
  | 30, _ => by kernel_rfl
  | 31, _ => by kernel_rfl
  | n + 32, h => absurd h (by omega)
theorem items_reg (R : Nat → Int) (w : World) : ∀ is : List Nat, (∀ i ∈ is, i < 32) → (Op.eqItems 9998 22 1 (regs R) (regs R) is).run Tryd.prog w = .ok true w
  | [], _ => by simp [Op.eqItems]
  | i :: is, h => by
    have hp := part_reg R w i (h i (by simp))
    have ih := items_reg R w is (fun j hj => h j (by simp [hj]))
    have he : (Op.equalIn 9998 22 (.int .u32 (R i)) (.int .u32 (R i))).run Tryd.prog w = .ok true w := by
      rw [show (9998 : Nat) = 9997 + 1 from rfl, run_equalIn_int w 9997 22 .u32 .u32 (R i) (R i) Tryd.underlying22]
      simp
    simp only [Op.eqItems, Sem.run_bind, hp, he, Result.andThen_ok]
    simpa using ih
theorem eqlR (R : Nat → Int) : ∀ w, (Op.equalIn 9999 32 (.agg (regs R)) (.agg (regs R))).run Tryd.prog w = .ok true w := by
  intro w
  obtain ⟨i, hi⟩ : ∃ i, Tryd.prog.info? 22 = some i := Option.isSome_iff_exists.1 (by kernel_rfl)
  rw [show (9999 : Nat) = 9998 + 1 from rfl, run_equalIn_array w 9998 (regs R) (regs R) Tryd.underlying32 hi, k22]
  exact items_reg R w _ (fun i hi => by simpa using hi)
set_option maxRecDepth 20000 in
set_option maxHeartbeats 1000000 in
theorem eqlH (R : Nat → Int) (pc st ca : Int) : ∀ w, (binOp .eql 34 (hv R pc st ca) (hv R pc st ca)).run Tryd.prog w = .ok (.bool true) w := by
  intro w
  have h := eqlR R
  go_simp

theorem walk (R : Nat → Int) (pc st ca : Int) (p : Option Addr) (n c : Nat) (f : Nat → Int) (w : World) (hR : ∀ i, i < 32 → 0 ≤ R i ∧ R i ≤ 4294967295) (p0 : 0 ≤ pc) (p1 : pc ≤ 4294967295) (hnc : n ≤ c) (hc : p = none → c = 0) (hm : Mem w p n f) (hf : ∀ i, i < n → 0 ≤ f i ∧ f i ≤ 255) (hT : Tab w) (hT2 : Tab2 w) :
    Calls Tryd.prog 7 #[hv R pc st ca, .slice p n c] w fun e w' => e = .returned (.bool true) ∧ Below w.heap.size w w' := by
  have CM := fun W => hMay_any (hcs R pc st ca) (R 0) st ca rfl rfl rfl W
  have b0 := hT.size
  have b1 := hT2.size
  have CK := fun (W : World) (g : Nat) (hl : Lies W g 0 4 nop) (hW : Below w.heap.size w W) => known W g hl (hT.below hW b0) (hT2.below hW b1)
  cases hb : (R 0 == 0 && (((st == 0 || st == 1) && ca == 0) || (st == 2 && decide (1 ≤ ca) && decide (ca ≤ 6)))) with
  | false =>
    rw [hb] at CM
    exact tells_may (hcs R pc st ca) st p n c w rfl rfl CK CM (fun W => hStep_may (hcs R pc st ca) st p n c W rfl rfl CM)
  | true =>
    rw [hb] at CM
    by_cases hs : st = 0
    · subst hs
      by_cases hn : n ≤ 4096
      · have h0 : R 0 = 0 ∧ ca = 0 := by
          simp at hb
          exact hb
        obtain ⟨r0, rfl⟩ := h0
        have o : Ok w R pc p n c f := ⟨r0, hR, p0, p1, hn, hnc, hm, hf, hT, hT2⟩
        obtain ⟨next, st, ca, ri, rd, v, ai, mi, a, m, data, out, told, dd, P, Q⟩ := both o
        have e1 := dd.er
        have e2 := dd.em
        have e3 := dd.lr
        have e4 := dd.hm
        have hu : upd R rd v 0 = 0 := by
          unfold upd
          by_cases hr : rd = 0
          · rw [if_pos hr, r0]
          · rw [if_neg hr, if_neg (by omega), r0]
        refine tells_yes (hcs R pc 0 0) (hcs (upd R rd v) next st ca) (ccs pc next st ca ri v ai mi data out told) pc ri mi p n c (sto f a data m) w rfl ⟨rfl, hcs_ones _ _ _ _⟩ ⟨rfl, ones_ccs _ _ _ _ _ _ _ _ _ _ _⟩ rfl rfl rfl rfl (by omega) (by omega) (by omega) (by omega) hT hT2 (eqlH _ _ _ _) (fun W => ?_) CK P (replays o hc dd out told)
        refine (hMay_any (hcs (upd R rd v) next st ca) (upd R rd v 0) st ca rfl rfl rfl W).mono fun e w' ⟨he, hb⟩ => ⟨?_, hb⟩
        rw [he, hu]
        rcases dd.hs with ⟨rfl, rfl⟩ | ⟨rfl, rfl⟩ | ⟨rfl, g1, g2⟩
        · rfl
        · rfl
        · simp [g1, g2]
      · exact tells_long (hcs R pc 0 ca) 0 p n c w rfl rfl rfl (decide_eq_true (by omega)) CK CM (fun W => hStep_long (hcs R pc 0 ca) 0 p n c W rfl rfl rfl rfl (decide_eq_true (by omega)) CM)
    · have hz : (st != 0) = true := by simpa using hs
      exact tells_runs (hcs R pc st ca) st p n c w rfl rfl hz CK CM (fun W => hStep_runs (hcs R pc st ca) st p n c W rfl rfl hz CM)

set_option maxRecDepth 100000 in
theorem contract (H : Type) (enc : TypeId × Value → H) (W : World) (base : Nat) (args : Array Value) (ds gs : List (DataW H)) (before : List MemPlace)
    (hval : ∀ (j : Nat) t v, Tryd.f7.params[j]? = some t → args[j]? = some v → Value.okWide Tryd.prog W .any base t v)
    (hW : DataW.Whole enc Tryd.prog Tryd.f7.params.toList Rows.hartTellsSpec.vars false W args.toList ds gs before) (hL : laidMetH Tryd.prog Rows.hartTellsRow.laid W) :
    Calls Tryd.prog 7 args W fun e W' => ∃ v, e = .returned v ∧ Rows.hartTellsSpec.post enc Tryd.prog Tryd.f7 false true false false W args v W' := by
  have hW' := hW
  obtain ⟨p, q, hA0, hV, rfl, hfz, hnd⟩ := hW
  have hA : DataW.TrodAll enc Tryd.prog W 0 (fun _ => true) true Tryd.f7.params.toList args.toList ds p := hA0
  rw [Tryd.params7] at hA hval
  obtain ⟨v0, vs0, d0, ds0, p0, q0, hargs, rfl, rfl, h0, r0⟩ := trodAll_cons hA
  obtain ⟨v1, vs1, d1, ds1, p1, q1, rfl, rfl, rfl, h1, r1⟩ := trodAll_cons r0
  obtain ⟨rfl, rfl, rfl⟩ := trodAll_nil r1
  obtain rfl : args = #[v0, v1] := by cases args; simp_all
  obtain ⟨rfl, rfl⟩ := trodVars_none hV
  obtain ⟨cs, rfl, hsz⟩ := okWide_struct Tryd.underlying34 (hval 0 34 v0 rfl rfl)
  have hsz : cs.size = 35 := hsz.trans (by kernel_rfl)
  obtain ⟨a0, len, cap, rfl⟩ := okWide_slice Tryd.underlying35 (hval 1 35 v1 rfl rfl)
  have k0 := h0
  have k1 := h1
  have lt0 : ∀ x ∈ p0, x.block < W.heap.size := by obtain ⟨m, hm⟩ := k0; exact DataW.trod_lt m _ _ _ hm
  have lt1 : ∀ x ∈ p1, x.block < W.heap.size := by obtain ⟨m, hm⟩ := k1; exact DataW.trod_lt m _ _ _ hm
  obtain ⟨R, pc, st, ca, hcs', hR, pc0, pc1⟩ : ∃ (R : Nat → Int) (pc st ca : Int), cs = hcs R pc st ca ∧ (∀ i, i < 32 → 0 ≤ R i ∧ R i ≤ 4294967295) ∧ 0 ≤ pc ∧ pc ≤ 4294967295 := by
    obtain ⟨fuel, hf⟩ := h0
    exact hart_cells hsz hf
  obtain ⟨f, hnc, hcn, hm, hrng⟩ : ∃ f : Nat → Int, len ≤ cap ∧ (a0 = none → cap = 0) ∧ Mem W a0 len f ∧ (∀ i, i < len → 0 ≤ f i ∧ f i ≤ 255) := by
    obtain ⟨fuel, hf⟩ := h1
    rcases open_ints Tryd.underlying35 Tryd.underlying5 (by kernel_rfl) hf with ⟨hcs, _⟩ | ⟨x, l, c, zs, hcs, _, hl, hm, hz, hd, hcell, hwz⟩
    · simp [Value.cells] at hcs
      obtain ⟨rfl, rfl, rfl⟩ := hcs
      exact ⟨fun _ => 0, Nat.le_refl _, fun _ => rfl, fun h => absurd h (by omega), fun i h => absurd h (by omega)⟩
    · simp [Value.cells] at hcs
      obtain ⟨rfl, rfl, rfl⟩ := hcs
      simp only [if_true] at hz
      have hin : Lib.BytesIn W (some x) len (zs.take len) := Lib.BytesIn.of_cells (fun i hi => by rw [hcell i (by omega)]; simp [List.getD, hi])
      refine ⟨fun i => (zs.take len).getD i 0, by omega, (fun h => by cases h), fun h0 => ?_, fun i hi => ?_⟩
      · obtain ⟨g, o, hp, hc⟩ := hin.at (by omega)
        exact ⟨g, o, hp, hc⟩
      · have hy : (zs.take len).getD i 0 ∈ zs.take len := by
          have hlt : i < (zs.take len).length := by simp; omega
          rw [List.getD_eq_getElem?_getD, List.getElem?_eq_getElem hlt]
          exact List.getElem_mem hlt
        have hw := hwz _ (List.mem_of_mem_take hy)
        have e1 : IntKind.u8.min = 0 := rfl
        have e2 : IntKind.u8.max = 255 := rfl
        simp only [Lit.wf, Bool.and_eq_true, decide_eq_true_eq] at hw
        show 0 ≤ (zs.take len).getD i 0 ∧ (zs.take len).getD i 0 ≤ 255
        omega
  obtain ⟨hT, hT2⟩ := tabs_of_laid hL
  clear hA0
  subst hcs'
  refine (walk R pc st ca a0 len cap f W hR pc0 pc1 hnc hcn hm hrng hT hT2).mono fun e W' ⟨he, bel⟩ => ?_
  subst he
  exact ⟨_, rfl, _, _, _, [], _, [], hW', trodAll_mk1 (shut_bool Tryd.underlying4 _), (trodAll_cons_mk (Below.trod laidOut (by kernel_rfl) (of_decide_eq_true (by kernel_rfl)) k0 bel lt0) (trodAll_cons_mk (Below.trod laidOut (by kernel_rfl) (of_decide_eq_true (by kernel_rfl)) k1 bel lt1) trodAll_mk0)), rfl, bel.frame _, fun h => by cases h⟩

theorem laid_met (os : Os) : laidMet Tryd.prog Rows.hartTellsRow.laid (({ World.holding Tryd.prog os ⟨#[], #[], []⟩ with heap := ((World.holding Tryd.prog os ⟨#[], #[], []⟩).heap.modify 0 fun | .cells _ t frozen => .cells (ftab.map fun z => Value.int .u32 z).toArray t frozen | o => o).modify 1 fun | .cells _ t frozen => .cells (itab.map fun z => Value.int .i64 z).toArray t frozen | o => o } : World).forCall (fun _ _ => 0) ⟨#[], #[hv (fun _ => 0) 0 0 0, .slice none 0 0], []⟩).memory :=
  laidMet_of_run' 8 (by kernel_rfl) (by kernel_rfl)
theorem reads (os : Os) {H : Type} (enc : TypeId × Value → H) : ∃ places, DataW.whole enc Tryd.prog (({ World.holding Tryd.prog os ⟨#[], #[], []⟩ with heap := ((World.holding Tryd.prog os ⟨#[], #[], []⟩).heap.modify 0 fun | .cells _ t frozen => .cells (ftab.map fun z => Value.int .u32 z).toArray t frozen | o => o).modify 1 fun | .cells _ t frozen => .cells (itab.map fun z => Value.int .i64 z).toArray t frozen | o => o } : World).forCall (fun _ _ => 0) ⟨#[], #[hv (fun _ => 0) 0 0 0, .slice none 0 0], []⟩).memory Tryd.f7.params.toList Rows.hartTellsSpec.vars false (#[hv (fun _ => 0) 0 0 0, .slice none 0 0] : Array Value).toList 8 = some ([.agg [.agg [.lit (.int .u32 0), .lit (.int .u32 0), .lit (.int .u32 0), .lit (.int .u32 0), .lit (.int .u32 0), .lit (.int .u32 0), .lit (.int .u32 0), .lit (.int .u32 0), .lit (.int .u32 0), .lit (.int .u32 0), .lit (.int .u32 0), .lit (.int .u32 0), .lit (.int .u32 0), .lit (.int .u32 0), .lit (.int .u32 0), .lit (.int .u32 0), .lit (.int .u32 0), .lit (.int .u32 0), .lit (.int .u32 0), .lit (.int .u32 0), .lit (.int .u32 0), .lit (.int .u32 0), .lit (.int .u32 0), .lit (.int .u32 0), .lit (.int .u32 0), .lit (.int .u32 0), .lit (.int .u32 0), .lit (.int .u32 0), .lit (.int .u32 0), .lit (.int .u32 0), .lit (.int .u32 0), .lit (.int .u32 0)], .lit (.int .u32 0), .lit (.int .i64 0), .lit (.int .i64 0)], .nil], [], places) :=
  ⟨[], by kernel_rfl⟩

set_option maxRecDepth 100000 in
theorem lifted (os : Os) (started : os.Started) (H : Type) (enc : TypeId × Value → H) (F : Stop.Interp) :
    ReturnsInHanded {} Tryd.checked os 7 .any ((OpenSpec.ofChange Rows.hartTellsSpec).preRow enc Tryd.prog Tryd.f7 Rows.hartTellsRow.domain false Rows.hartTellsRow.laid) (((OpenSpec.ofChange Rows.hartTellsSpec).at F).post enc Tryd.prog Tryd.f7 false true false false) := by
  obtain ⟨places, hx⟩ := reads os enc
  refine returnsInHanded_of_row (C := Tryd.checked) (s := OpenSpec.ofChange Rows.hartTellsSpec) own started (by kernel_rfl) Tryd.func7
    (witness_row_at (enc := enc) (C := Tryd.checked) false ({ World.holding Tryd.prog os ⟨#[], #[], []⟩ with heap := ((World.holding Tryd.prog os ⟨#[], #[], []⟩).heap.modify 0 fun | .cells _ t frozen => .cells (ftab.map fun z => Value.int .u32 z).toArray t frozen | o => o).modify 1 fun | .cells _ t frozen => .cells (itab.map fun z => Value.int .i64 z).toArray t frozen | o => o } : World) #[hv (fun _ => 0) 0 0 0, .slice none 0 0] rfl (by kernel_rfl) (by kernel_rfl) (by kernel_rfl)
      (OpenSpec.preRow_of_cond 8 hx (by kernel_rfl) (fun k hk => by cases hk) (by kernel_rfl) (laid_met os))) ?_
  intro W base args ds gs before hval hW _ _ _ hL _ _
  exact contract H enc W base args ds gs before hval hW hL

theorem said : Rows.HartTellsSaid :=
  OpenClaim.holds_of_cond 7 Tryd.f7 rfl rfl rfl rfl rfl rfl rfl ⟨rfl, rfl, rfl, rfl, rfl⟩ rfl rfl rfl rfl rfl (by kernel_rfl) Tryd.func7 (by kernel_rfl)
    (of_decide_eq_true (by kernel_rfl)) (by unfold Func.isWrapper; first | (rw [if_pos (by decide +kernel)]; kernel_rfl) | (rw [if_neg (by decide +kernel)]; exact ⟨rfl, rfl⟩))
    (fun os started H enc _ F => by rw [OpenClaim.pre_eq_preRow]; exact lifted os started H enc F)

theorem plain (f : FuncId) (fn : Func) (hf : Tryd.pinned.checked.prog.funcNamed "humpyard/humpyardkeep.HartTells" = some f) (hfn : Tryd.pinned.checked.prog.funcs[f]? = some fn) :
    false = Tryd.pinned.checked.prog.looks [] ∧ ∀ (j : Nat) t, fn.params[j]? = some t → Tryd.pinned.checked.prog.wantsStandIn t = false := by
  obtain rfl : f = 7 := Option.some.inj ((show Tryd.prog.funcNamed "humpyard/humpyardkeep.HartTells" = some 7 by kernel_rfl).symm.trans hf) |>.symm
  obtain rfl : fn = Tryd.f7 := (Option.some.inj (Tryd.func7.symm.trans hfn)).symm
  refine ⟨by kernel_rfl, fun j t ht => ?_⟩
  rw [Tryd.params7] at ht
  have hm := Array.mem_of_getElem? ht
  simp at hm
  rcases hm with rfl | rfl
  · exact (show Tryd.prog.wantsStandIn 34 = false by kernel_rfl)
  · exact (show Tryd.prog.wantsStandIn 35 = false by kernel_rfl)

theorem card : Rows.HartTellsCardSaid :=
  Claim7.holds_tied_plain_at .later [] _ _ _ _ said (fun _ h => by cases h) (by kernel_rfl) (fun _ h => by cases h) hartTells_row_tie rfl ⟨rfl, rfl⟩ (by kernel_rfl) rfl plain (by kernel_rfl)
end Go.Proofs.YtpiohehijkpghaaDoor.hartTells
namespace Go.Proofs.YtpiohehijkpghaaDoor
theorem hartTells_holds : Rows.HartTellsCardSaid := hartTells.card
end Go.Proofs.YtpiohehijkpghaaDoor
