/- The law on both Steps, walked. -/
import Derived.Test.YtpiohehijkpghaaDoorHartM
import Derived.Deep.MidRow
import Derived.Deep.Cut
namespace Go.Proofs.YtpiohehijkpghaaDoor
open Go.RowKit
open Hy
set_option linter.unusedVariables false
set_option linter.unusedSimpArgs false

theorem wpList_load_row_g {P : Program} {ops : Array Oper} {rest : List Oper} {o : Oper} {a : Act} {w : World} {Q : Exit → Act → World → Prop} (hw : Region.wanted o (yielded ops a.tmps) = true) (ty : TypeId) (x : Operand) (ho : o.op = .load ty x)
    (g : Nat) (hx : a.eval x = .pointer (some ⟨g, 0, none⟩)) (t : TypeId) (cs : Array Value) (fr : Nat × Nat) (d : TypeDesc) (hg : w.heap[g]? = some (.cells cs t fr))
    (hu : P.underlying ty = some d) (hd : (match d with | .struct _ | .array _ _ => true | _ => false) = true) (hi : (P.info? ty).map (·.size) = some cs.size)
    (h : wpList P ops Q rest (a.put o.dst (.agg cs)) w) : wpList P ops Q (o :: rest) a w := by
  unfold wpList
  rw [if_pos hw]
  exact Or.inl (wp_load_row ty x ho g hx t cs fr d hg hu hd hi h)

theorem wpList_load_mid_g {P : Program} {ops : Array Oper} {rest : List Oper} {o : Oper} {a : Act} {w : World} {Q : Exit → Act → World → Prop} (hw : Region.wanted o (yielded ops a.tmps) = true) (ty : TypeId) (x : Operand) (ho : o.op = .load ty x)
    (b k : Nat) (hx : a.eval x = .pointer (some ⟨b, k, none⟩)) (cs : Array Value) (d : TypeDesc) (hc : w.rangeAt b k cs.toList)
    (hu : P.underlying ty = some d) (hd : d.isRow = true) (hi : (P.info? ty).map (·.size) = some cs.size)
    (h : wpList P ops Q rest (a.put o.dst (.agg cs)) w) : wpList P ops Q (o :: rest) a w := by
  unfold wpList
  rw [if_pos hw]
  exact Or.inl (wp_load_mid ty x ho b k hx cs.toList d hc hu hd (by simpa using hi) h)

theorem Did.rangeC {D C H : Array Value} {p : Option Addr} {n c : Nat} (h : Did D C H p n c) {w : World} {b : Nat} {t : TypeId} (hr : w.heap[b]? = some (.cells D t (0, 0))) : w.rangeAt b 0 C.toList := fun j v hv => by
  have hj : j < C.size := by have := (List.getElem?_eq_some_iff.1 hv).1; simpa using this
  rw [Nat.zero_add, cell_of_row _ _ _ _ _ _ hr, h.is, Array.append_assoc, Array.getElem?_append_left hj]
  simpa using hv
theorem Did.rangeH {D C H : Array Value} {p : Option Addr} {n c : Nat} (h : Did D C H p n c) {w : World} {b : Nat} {t : TypeId} (hr : w.heap[b]? = some (.cells D t (0, 0))) : w.rangeAt b 11 H.toList := fun j v hv => by
  have hj : j < H.size := by have := (List.getElem?_eq_some_iff.1 hv).1; simpa using this
  have hC := h.hC
  rw [cell_of_row _ _ _ _ _ _ hr, h.is, Array.append_assoc, Array.getElem?_append_right (by omega), show 11 + j - C.size = j by omega, Array.getElem?_append_left hj]
  simpa using hv
theorem Did.cellM {D C H : Array Value} {p : Option Addr} {n c : Nat} (h : Did D C H p n c) {w : World} {b : Nat} {t : TypeId} (hr : w.heap[b]? = some (.cells D t (0, 0))) : w.cell? ⟨b, 46, none⟩ = some (.slice p n c) := by
  have hC := h.hC
  have hH := h.hH
  rw [cell_of_row _ _ _ _ _ _ hr, h.is, Array.getElem?_append_right (by simp; omega)]
  simp [hC, hH]

set_option maxRecDepth 20000 in
set_option maxHeartbeats 4000000 in
theorem law_yes (H H2 C : Array Value) (p : Option Addr) (n c : Nat) (f' : Nat → Int) (w : World) (hI : Hid (H.size = 35)) (hI2 : Hid (H2.size = 35 ∧ Ones H2)) (hC : Hid (C.size = 11 ∧ Ones C)) (h33 : H[33]? = some (.int .i64 0)) (hn : n ≤ 4096)
    (q38 : ∀ w, (binOp .eql 38 (.agg C) (.agg C)).run Tryd.prog w = .ok (.bool true) w) (q34 : ∀ w, (binOp .eql 34 (.agg H2) (.agg H2)).run Tryd.prog w = .ok (.bool true) w)
    (CM : ∀ W, Calls Tryd.prog 15 #[.agg H] W fun e w' => e = .returned (.bool true) ∧ Below W.heap.size W w')
    (CQ : ∀ W, Calls Tryd.prog 16 #[.agg H] W fun e w' => e = .returned (.bool true) ∧ Below W.heap.size W w')
    (CS : ∀ W, Below w.heap.size w W → Calls Tryd.prog 17 #[.agg H, .slice p n c] W fun e w' => (∃ p' cap, e = .returned (.tuple #[.agg C, .agg H2, .slice p' n cap, .bool true]) ∧ n ≤ cap ∧ Own w' W.heap.size p' n f') ∧ Below W.heap.size W w')
    (CR : ∀ W, Below w.heap.size w W → Calls Tryd.prog 18 #[.agg H, .slice p n c] W fun e w' => (∃ D p' cap, e = .returned (.agg D) ∧ Did D C H2 p' n cap ∧ n ≤ cap ∧ Mem w' p' n f') ∧ Below W.heap.size W w') :
    Calls Tryd.prog 6 #[.agg H, .slice p n c] w fun e w' => e = .returned (.bool true) ∧ Below w.heap.size w w' := by
  have hle : decide ((4096 : Int) < (n : Int)) = false := decide_eq_false (by omega)
  go_enter Tryd.func6, Tryd.ntmps6
  go_wp2_with (refine wpList_load_row rfl 34 _ rfl _ rfl 34 _ (0, 0) _ (heap_alloc_new _ _) Tryd.underlying34 rfl (info_hart hI.out) ?_)
  refine (CM _).mono ?_
  rintro e w2 ⟨rfl, hk⟩
  have hs := hk.size
  simp at hs
  have R34 : Hid (w2.heap[w.heap.size]? = some (.cells H 34 (0, 0))) := (hk.block _ (by simp)).trans (heap_alloc_new _ _)
  have hb2 : Below w.heap.size w w2 := ((Below.refl _ _).alloc (Nat.le_refl _) _).trans (hk.mono (by simp))
  have hs2 : w.heap.size < w2.heap.size := by omega
  clear hk CM hs
  go_wp2_with (refine wpList_load_row rfl 34 _ rfl _ rfl 34 _ (0, 0) _ R34.out Tryd.underlying34 rfl (info_hart hI.out) ?_)
  refine (CQ _).mono ?_
  rintro e w3 ⟨rfl, hk3⟩
  have hs3' := hk3.size
  have R34 : Hid (w3.heap[w.heap.size]? = some (.cells H 34 (0, 0))) := (hk3.block _ hs2).trans R34.out
  have hb3 : Below w.heap.size w w3 := hb2.trans (hk3.mono (by omega))
  have hs3 : w.heap.size < w3.heap.size := by omega
  clear hk3 CQ hs3' hb2 hs2
  go_wp2_with (refine wpList_load_row rfl 34 _ rfl _ rfl 34 _ (0, 0) _ R34.out Tryd.underlying34 rfl (info_hart hI.out) ?_)
  refine (CS _ hb3).mono ?_
  rintro e w4 ⟨⟨p', cap, rfl, hcap, hM⟩, hk4⟩
  have hs4' := hk4.size
  have R34 : Hid (w4.heap[w.heap.size]? = some (.cells H 34 (0, 0))) := (hk4.block _ hs3).trans R34.out
  have hb4 : Below w.heap.size w w4 := hb3.trans (hk4.mono (by omega))
  have hs4 : w.heap.size < w4.heap.size := by omega
  have HM : Hid (Mem w4 p' n f') := hM.mem
  clear hk4 CS hs4' hb3 hs3 hM
  go_upto_region 5 with (first | (refine wpList_store_row rfl 38 _ _ rfl _ _ rfl rfl 38 _ (heap_alloc2_old _ _ _) (size_commit.trans (congrArg some hC.out.1.symm)) hC.out.1.symm hC.out.2 ?_) | (refine wpList_store_row rfl 34 _ _ rfl _ _ rfl rfl 34 _ ((setRow_other _ _ _ _ (by omega)).trans (heap_alloc2_new _ _ _)) (info_hart hI2.out.1) hI2.out.1.symm hI2.out.2 ?_))
  try simp only [Act.put]
  obtain ⟨W, hW⟩ : ∃ W : World, W = ((((w4.alloc (.cells (ccs 0 0 0 0 0 0 0 0 0 false 0) 38)).alloc (.cells (hcs (fun _ => 0) 0 0 0) 34)).setRow w4.heap.size C).setRow (w4.heap.size + 1) H2) := ⟨_, rfl⟩
  rw [← hW]
  have rC : Hid (W.heap[w4.heap.size]? = some (.cells C 38 (0, 0))) := by rw [hW]; exact (setRow_other _ _ _ _ (by omega)).trans (setRow_heap _ _ _ _ _ _ (heap_alloc2_old _ _ _))
  have rX : Hid (W.heap[w4.heap.size + 1]? = some (.cells H2 34 (0, 0))) := by rw [hW]; exact setRow_heap _ _ _ _ _ _ ((setRow_other _ _ _ _ (by omega)).trans (heap_alloc2_new _ _ _))
  have rH : W.heap[w.heap.size]? = some (.cells H 34 (0, 0)) := by rw [hW]; exact (setRow_other _ _ _ _ (by omega)).trans ((setRow_other _ _ _ _ (by omega)).trans (row_up R34.out _ _))
  have RH : Hid (W.heap[w.heap.size]? = some (.cells H 34 (0, 0))) := rH
  have hb : Below w.heap.size w W := by rw [hW]; exact below_row (below_row ((hb4.alloc (by omega) _).alloc (by simp; omega) _) (by omega) _) (by omega) _
  have hbm : Below w4.heap.size w4 W := by rw [hW]; exact below_row (below_row (((Below.refl _ _).alloc (Nat.le_refl _) _).alloc (by simp) _) (Nat.le_refl _) _) (by omega) _
  have hsz : w4.heap.size + 2 ≤ W.heap.size := by rw [hW]; simp
  have HM : Hid (Mem W p' n f') := HM.out.below hbm
  have k33 := (cell_of_row W w.heap.size 33 _ _ _ rH).trans h33
  clear hW rH hb4 hbm R34 h33
  go_upto_region 7 with fail
  go_wp2_with (refine wpList_load_row rfl 34 _ rfl _ rfl 34 _ (0, 0) _ RH.out Tryd.underlying34 rfl (info_hart hI.out) ?_)
  refine (CR _ hb).mono ?_
  rintro e w5 ⟨⟨D, p2, cap2, rfl, hD, hcap2, hM2⟩, hk5⟩
  have hD : Hid (Did D C H2 p2 n cap2) := hD
  have hs5 := hk5.size
  have rC : Hid (w5.heap[w4.heap.size]? = some (.cells C 38 (0, 0))) := (hk5.block _ (by omega)).trans rC.out
  have rX : Hid (w5.heap[w4.heap.size + 1]? = some (.cells H2 34 (0, 0))) := (hk5.block _ (by omega)).trans rX.out
  have hb5 : Below w.heap.size w w5 := hb.trans (hk5.mono (by omega))
  have HM : Hid (Mem w5 p' n f') := HM.out.below hk5
  have HM2 : Hid (Mem w5 p2 n f') := hM2
  have hs6 : w4.heap.size + 1 < w5.heap.size := by omega
  clear hk5 CR hM2 hb RH k33 hs5 hsz
  go_upto_region 8 with (refine wpList_store_row rfl 42 _ _ rfl _ _ rfl rfl 42 _ (heap_alloc_new _ _) hD.out.info hD.out.size.symm hD.out.ones ?_)
  try simp only [Act.put]
  rw [World.setRow_alloc_new]
  have rD : Hid ((w5.alloc (.cells D 42)).heap[w5.heap.size]? = some (.cells D 42 (0, 0))) := heap_alloc_new _ _
  have rC' : Hid ((w5.alloc (.cells D 42)).heap[w4.heap.size]? = some (.cells C 38 (0, 0))) := (Below.heap_alloc _ _ _ (by omega)).trans rC.out
  have rX' : Hid ((w5.alloc (.cells D 42)).heap[w4.heap.size + 1]? = some (.cells H2 34 (0, 0))) := (Below.heap_alloc _ _ _ (by omega)).trans rX.out
  have k46 := hD.out.cellM rD.out
  have hA := (Below.refl w5.heap.size w5).alloc (Nat.le_refl _) (.cells D 42)
  have CY := Bytes_same p' p2 n cap cap2 ((List.range n).map f') (by simp) (w5.alloc (.cells D 42)) (HM.out.below hA).bytes (HM2.out.below hA).bytes
  go_wp2_with (first | (refine wpList_load_mid_g (by rfl) 38 _ rfl _ 0 rfl C _ (hD.out.rangeC rD.out) Tryd.underlying38 rfl (size_commit.trans (congrArg some hC.out.1.symm)) ?_) | (refine wpList_load_mid_g (by rfl) 34 _ rfl _ 11 rfl H2 _ (hD.out.rangeH rD.out) Tryd.underlying34 rfl (info_hart hI2.out.1) ?_) | (refine wpList_load_row_g (by rfl) 38 _ rfl _ rfl 38 C (0, 0) _ rC'.out Tryd.underlying38 rfl (size_commit.trans (congrArg some hC.out.1.symm)) ?_) | (refine wpList_load_row_g (by rfl) 34 _ rfl _ rfl 34 H2 (0, 0) _ rX'.out Tryd.underlying34 rfl (info_hart hI2.out.1) ?_))
  refine CY.mono ?_
  rintro e w' ⟨rfl, rfl⟩
  go_wp2_with fail
  go_ret
  exact ⟨rfl, hb5.alloc (by omega) _⟩
end Go.Proofs.YtpiohehijkpghaaDoor
namespace Go.Proofs.YtpiohehijkpghaaDoor
open Go.RowKit
open Hy
set_option linter.unusedVariables false
set_option linter.unusedSimpArgs false

theorem eql0c : ∀ w, (binOp .eql 38 (cv 0 0 0 0 0 0 0 0 0 false 0) (cv 0 0 0 0 0 0 0 0 0 false 0)).run Tryd.prog w = .ok (.bool true) w := fun w => by kernel_rfl
theorem eql0h : ∀ w, (binOp .eql 34 (hv (fun _ => 0) 0 0 0) (hv (fun _ => 0) 0 0 0)).run Tryd.prog w = .ok (.bool true) w := fun w => by kernel_rfl

set_option maxRecDepth 20000 in
set_option maxHeartbeats 4000000 in
theorem law_may (H : Array Value) (st : Int) (p : Option Addr) (n c : Nat) (w : World) (hI : Hid (H.size = 35)) (h33 : H[33]? = some (.int .i64 st))
    (CM : ∀ W, Calls Tryd.prog 15 #[.agg H] W fun e w' => e = .returned (.bool false) ∧ Below W.heap.size W w')
    (CQ : ∀ W, Calls Tryd.prog 16 #[.agg H] W fun e w' => e = .returned (.bool false) ∧ Below W.heap.size W w')
    (CS : ∀ W, Calls Tryd.prog 17 #[.agg H, .slice p n c] W fun e w' => e = .returned (.tuple #[cv 0 0 0 0 0 0 0 0 0 false 0, hv (fun _ => 0) 0 0 0, .slice none 0 0, .bool false]) ∧ Below W.heap.size W w') :
    Calls Tryd.prog 6 #[.agg H, .slice p n c] w fun e w' => e = .returned (.bool true) ∧ Below w.heap.size w w' := by
  have q38 := eql0c
  have q34 := eql0h
  go_enter Tryd.func6, Tryd.ntmps6
  go_wp2_with (refine wpList_load_row rfl 34 _ rfl _ rfl 34 _ (0, 0) _ (heap_alloc_new _ _) Tryd.underlying34 rfl (info_hart hI.out) ?_)
  refine (CM _).mono ?_
  rintro e w2 ⟨rfl, hk⟩
  have hs := hk.size
  simp at hs
  have R34 : Hid (w2.heap[w.heap.size]? = some (.cells H 34 (0, 0))) := (hk.block _ (by simp)).trans (heap_alloc_new _ _)
  have hb2 : Below w.heap.size w w2 := ((Below.refl _ _).alloc (Nat.le_refl _) _).trans (hk.mono (by simp))
  have hs2 : w.heap.size < w2.heap.size := by omega
  clear hk CM hs
  go_wp2_with (refine wpList_load_row rfl 34 _ rfl _ rfl 34 _ (0, 0) _ R34.out Tryd.underlying34 rfl (info_hart hI.out) ?_)
  refine (CQ _).mono ?_
  rintro e w3 ⟨rfl, hk3⟩
  have hs3' := hk3.size
  have R34 : Hid (w3.heap[w.heap.size]? = some (.cells H 34 (0, 0))) := (hk3.block _ hs2).trans R34.out
  have hb3 : Below w.heap.size w w3 := hb2.trans (hk3.mono (by omega))
  have hs3 : w.heap.size < w3.heap.size := by omega
  clear hk3 CQ hs3' hb2 hs2
  go_wp2_with (refine wpList_load_row rfl 34 _ rfl _ rfl 34 _ (0, 0) _ R34.out Tryd.underlying34 rfl (info_hart hI.out) ?_)
  refine (CS _).mono ?_
  rintro e w4 ⟨rfl, hk4⟩
  have hs4' := hk4.size
  have R34 : Hid (w4.heap[w.heap.size]? = some (.cells H 34 (0, 0))) := (hk4.block _ hs3).trans R34.out
  have hb4 : Below w.heap.size w w4 := hb3.trans (hk4.mono (by omega))
  have hs4 : w.heap.size < w4.heap.size := by omega
  clear hk4 CS hs4' hb3 hs3
  go_upto_region 5 with (first | (refine wpList_store_row rfl 38 _ _ rfl _ _ rfl rfl 38 _ (heap_alloc2_old _ _ _) size_commit rfl (ones_ccs _ _ _ _ _ _ _ _ _ _ _) ?_) | (refine wpList_store_row rfl 34 _ _ rfl _ _ rfl rfl 34 _ ((setRow_other _ _ _ _ (by omega)).trans (heap_alloc2_new _ _ _)) size_hart rfl ones_zero ?_))
  try simp only [Act.put]
  obtain ⟨W, hW⟩ : ∃ W : World, W = ((((w4.alloc (.cells (ccs 0 0 0 0 0 0 0 0 0 false 0) 38)).alloc (.cells (hcs (fun _ => 0) 0 0 0) 34)).setRow w4.heap.size (ccs 0 0 0 0 0 0 0 0 0 false 0)).setRow (w4.heap.size + 1) (hcs (fun _ => 0) 0 0 0)) := ⟨_, rfl⟩
  rw [← hW]
  have rC : Hid (W.heap[w4.heap.size]? = some (.cells (ccs 0 0 0 0 0 0 0 0 0 false 0) 38 (0, 0))) := by rw [hW]; exact (setRow_other _ _ _ _ (by omega)).trans (setRow_heap _ _ _ _ _ _ (heap_alloc2_old _ _ _))
  have rX : Hid (W.heap[w4.heap.size + 1]? = some (.cells (hcs (fun _ => 0) 0 0 0) 34 (0, 0))) := by rw [hW]; exact setRow_heap _ _ _ _ _ _ ((setRow_other _ _ _ _ (by omega)).trans (heap_alloc2_new _ _ _))
  have rH : W.heap[w.heap.size]? = some (.cells H 34 (0, 0)) := by rw [hW]; exact (setRow_other _ _ _ _ (by omega)).trans ((setRow_other _ _ _ _ (by omega)).trans (row_up R34.out _ _))
  have hb : Below w.heap.size w W := by rw [hW]; exact below_row (below_row ((hb4.alloc (by omega) _).alloc (by simp; omega) _) (by omega) _) (by omega) _
  have k33 := (cell_of_row W w.heap.size 33 _ _ _ rH).trans h33
  clear hW rH hb4 R34 h33
  go_upto_region 6 with fail
  go_wp2_with (first | (refine wpList_load_row_g (by rfl) 38 _ rfl _ rfl 38 (ccs 0 0 0 0 0 0 0 0 0 false 0) (0, 0) _ rC.out Tryd.underlying38 rfl size_commit ?_) | (refine wpList_load_row_g (by rfl) 34 _ rfl _ rfl 34 (hcs (fun _ => 0) 0 0 0) (0, 0) _ rX.out Tryd.underlying34 rfl size_hart ?_))
  go_ret
  exact ⟨rfl, hb⟩

set_option maxRecDepth 20000 in
set_option maxHeartbeats 4000000 in
theorem law_runs (H : Array Value) (st : Int) (p : Option Addr) (n c : Nat) (w : World) (hI : Hid (H.size = 35)) (h33 : H[33]? = some (.int .i64 st)) (hz : (st != 0) = true)
    (CM : ∀ W, Calls Tryd.prog 15 #[.agg H] W fun e w' => e = .returned (.bool true) ∧ Below W.heap.size W w')
    (CQ : ∀ W, Calls Tryd.prog 16 #[.agg H] W fun e w' => e = .returned (.bool true) ∧ Below W.heap.size W w')
    (CS : ∀ W, Calls Tryd.prog 17 #[.agg H, .slice p n c] W fun e w' => e = .returned (.tuple #[cv 0 0 0 0 0 0 0 0 0 false 0, hv (fun _ => 0) 0 0 0, .slice none 0 0, .bool false]) ∧ Below W.heap.size W w') :
    Calls Tryd.prog 6 #[.agg H, .slice p n c] w fun e w' => e = .returned (.bool true) ∧ Below w.heap.size w w' := by
  have q38 := eql0c
  have q34 := eql0h
  go_enter Tryd.func6, Tryd.ntmps6
  go_wp2_with (refine wpList_load_row rfl 34 _ rfl _ rfl 34 _ (0, 0) _ (heap_alloc_new _ _) Tryd.underlying34 rfl (info_hart hI.out) ?_)
  refine (CM _).mono ?_
  rintro e w2 ⟨rfl, hk⟩
  have hs := hk.size
  simp at hs
  have R34 : Hid (w2.heap[w.heap.size]? = some (.cells H 34 (0, 0))) := (hk.block _ (by simp)).trans (heap_alloc_new _ _)
  have hb2 : Below w.heap.size w w2 := ((Below.refl _ _).alloc (Nat.le_refl _) _).trans (hk.mono (by simp))
  have hs2 : w.heap.size < w2.heap.size := by omega
  clear hk CM hs
  go_wp2_with (refine wpList_load_row rfl 34 _ rfl _ rfl 34 _ (0, 0) _ R34.out Tryd.underlying34 rfl (info_hart hI.out) ?_)
  refine (CQ _).mono ?_
  rintro e w3 ⟨rfl, hk3⟩
  have hs3' := hk3.size
  have R34 : Hid (w3.heap[w.heap.size]? = some (.cells H 34 (0, 0))) := (hk3.block _ hs2).trans R34.out
  have hb3 : Below w.heap.size w w3 := hb2.trans (hk3.mono (by omega))
  have hs3 : w.heap.size < w3.heap.size := by omega
  clear hk3 CQ hs3' hb2 hs2
  go_wp2_with (refine wpList_load_row rfl 34 _ rfl _ rfl 34 _ (0, 0) _ R34.out Tryd.underlying34 rfl (info_hart hI.out) ?_)
  refine (CS _).mono ?_
  rintro e w4 ⟨rfl, hk4⟩
  have hs4' := hk4.size
  have R34 : Hid (w4.heap[w.heap.size]? = some (.cells H 34 (0, 0))) := (hk4.block _ hs3).trans R34.out
  have hb4 : Below w.heap.size w w4 := hb3.trans (hk4.mono (by omega))
  have hs4 : w.heap.size < w4.heap.size := by omega
  clear hk4 CS hs4' hb3 hs3
  go_upto_region 5 with (first | (refine wpList_store_row rfl 38 _ _ rfl _ _ rfl rfl 38 _ (heap_alloc2_old _ _ _) size_commit rfl (ones_ccs _ _ _ _ _ _ _ _ _ _ _) ?_) | (refine wpList_store_row rfl 34 _ _ rfl _ _ rfl rfl 34 _ ((setRow_other _ _ _ _ (by omega)).trans (heap_alloc2_new _ _ _)) size_hart rfl ones_zero ?_))
  try simp only [Act.put]
  obtain ⟨W, hW⟩ : ∃ W : World, W = ((((w4.alloc (.cells (ccs 0 0 0 0 0 0 0 0 0 false 0) 38)).alloc (.cells (hcs (fun _ => 0) 0 0 0) 34)).setRow w4.heap.size (ccs 0 0 0 0 0 0 0 0 0 false 0)).setRow (w4.heap.size + 1) (hcs (fun _ => 0) 0 0 0)) := ⟨_, rfl⟩
  rw [← hW]
  have rC : Hid (W.heap[w4.heap.size]? = some (.cells (ccs 0 0 0 0 0 0 0 0 0 false 0) 38 (0, 0))) := by rw [hW]; exact (setRow_other _ _ _ _ (by omega)).trans (setRow_heap _ _ _ _ _ _ (heap_alloc2_old _ _ _))
  have rX : Hid (W.heap[w4.heap.size + 1]? = some (.cells (hcs (fun _ => 0) 0 0 0) 34 (0, 0))) := by rw [hW]; exact setRow_heap _ _ _ _ _ _ ((setRow_other _ _ _ _ (by omega)).trans (heap_alloc2_new _ _ _))
  have rH : W.heap[w.heap.size]? = some (.cells H 34 (0, 0)) := by rw [hW]; exact (setRow_other _ _ _ _ (by omega)).trans ((setRow_other _ _ _ _ (by omega)).trans (row_up R34.out _ _))
  have hb : Below w.heap.size w W := by rw [hW]; exact below_row (below_row ((hb4.alloc (by omega) _).alloc (by simp; omega) _) (by omega) _) (by omega) _
  have k33 := (cell_of_row W w.heap.size 33 _ _ _ rH).trans h33
  clear hW rH hb4 R34 h33
  go_upto_region 6 with fail
  go_wp2_with (first | (refine wpList_load_row_g (by rfl) 38 _ rfl _ rfl 38 (ccs 0 0 0 0 0 0 0 0 0 false 0) (0, 0) _ rC.out Tryd.underlying38 rfl size_commit ?_) | (refine wpList_load_row_g (by rfl) 34 _ rfl _ rfl 34 (hcs (fun _ => 0) 0 0 0) (0, 0) _ rX.out Tryd.underlying34 rfl size_hart ?_))
  go_ret
  exact ⟨rfl, hb⟩

set_option maxRecDepth 20000 in
set_option maxHeartbeats 4000000 in
theorem law_long (H : Array Value) (st : Int) (p : Option Addr) (n c : Nat) (w : World) (hI : Hid (H.size = 35)) (h33 : H[33]? = some (.int .i64 st)) (hz : (st != 0) = false) (hl : decide ((4096 : Int) < (n : Int)) = true)
    (CM : ∀ W, Calls Tryd.prog 15 #[.agg H] W fun e w' => e = .returned (.bool true) ∧ Below W.heap.size W w')
    (CQ : ∀ W, Calls Tryd.prog 16 #[.agg H] W fun e w' => e = .returned (.bool true) ∧ Below W.heap.size W w')
    (CS : ∀ W, Calls Tryd.prog 17 #[.agg H, .slice p n c] W fun e w' => e = .returned (.tuple #[cv 0 0 0 0 0 0 0 0 0 false 0, hv (fun _ => 0) 0 0 0, .slice none 0 0, .bool false]) ∧ Below W.heap.size W w') :
    Calls Tryd.prog 6 #[.agg H, .slice p n c] w fun e w' => e = .returned (.bool true) ∧ Below w.heap.size w w' := by
  have q38 := eql0c
  have q34 := eql0h
  go_enter Tryd.func6, Tryd.ntmps6
  go_wp2_with (refine wpList_load_row rfl 34 _ rfl _ rfl 34 _ (0, 0) _ (heap_alloc_new _ _) Tryd.underlying34 rfl (info_hart hI.out) ?_)
  refine (CM _).mono ?_
  rintro e w2 ⟨rfl, hk⟩
  have hs := hk.size
  simp at hs
  have R34 : Hid (w2.heap[w.heap.size]? = some (.cells H 34 (0, 0))) := (hk.block _ (by simp)).trans (heap_alloc_new _ _)
  have hb2 : Below w.heap.size w w2 := ((Below.refl _ _).alloc (Nat.le_refl _) _).trans (hk.mono (by simp))
  have hs2 : w.heap.size < w2.heap.size := by omega
  clear hk CM hs
  go_wp2_with (refine wpList_load_row rfl 34 _ rfl _ rfl 34 _ (0, 0) _ R34.out Tryd.underlying34 rfl (info_hart hI.out) ?_)
  refine (CQ _).mono ?_
  rintro e w3 ⟨rfl, hk3⟩
  have hs3' := hk3.size
  have R34 : Hid (w3.heap[w.heap.size]? = some (.cells H 34 (0, 0))) := (hk3.block _ hs2).trans R34.out
  have hb3 : Below w.heap.size w w3 := hb2.trans (hk3.mono (by omega))
  have hs3 : w.heap.size < w3.heap.size := by omega
  clear hk3 CQ hs3' hb2 hs2
  go_wp2_with (refine wpList_load_row rfl 34 _ rfl _ rfl 34 _ (0, 0) _ R34.out Tryd.underlying34 rfl (info_hart hI.out) ?_)
  refine (CS _).mono ?_
  rintro e w4 ⟨rfl, hk4⟩
  have hs4' := hk4.size
  have R34 : Hid (w4.heap[w.heap.size]? = some (.cells H 34 (0, 0))) := (hk4.block _ hs3).trans R34.out
  have hb4 : Below w.heap.size w w4 := hb3.trans (hk4.mono (by omega))
  have hs4 : w.heap.size < w4.heap.size := by omega
  clear hk4 CS hs4' hb3 hs3
  go_upto_region 5 with (first | (refine wpList_store_row rfl 38 _ _ rfl _ _ rfl rfl 38 _ (heap_alloc2_old _ _ _) size_commit rfl (ones_ccs _ _ _ _ _ _ _ _ _ _ _) ?_) | (refine wpList_store_row rfl 34 _ _ rfl _ _ rfl rfl 34 _ ((setRow_other _ _ _ _ (by omega)).trans (heap_alloc2_new _ _ _)) size_hart rfl ones_zero ?_))
  try simp only [Act.put]
  obtain ⟨W, hW⟩ : ∃ W : World, W = ((((w4.alloc (.cells (ccs 0 0 0 0 0 0 0 0 0 false 0) 38)).alloc (.cells (hcs (fun _ => 0) 0 0 0) 34)).setRow w4.heap.size (ccs 0 0 0 0 0 0 0 0 0 false 0)).setRow (w4.heap.size + 1) (hcs (fun _ => 0) 0 0 0)) := ⟨_, rfl⟩
  rw [← hW]
  have rC : Hid (W.heap[w4.heap.size]? = some (.cells (ccs 0 0 0 0 0 0 0 0 0 false 0) 38 (0, 0))) := by rw [hW]; exact (setRow_other _ _ _ _ (by omega)).trans (setRow_heap _ _ _ _ _ _ (heap_alloc2_old _ _ _))
  have rX : Hid (W.heap[w4.heap.size + 1]? = some (.cells (hcs (fun _ => 0) 0 0 0) 34 (0, 0))) := by rw [hW]; exact setRow_heap _ _ _ _ _ _ ((setRow_other _ _ _ _ (by omega)).trans (heap_alloc2_new _ _ _))
  have rH : W.heap[w.heap.size]? = some (.cells H 34 (0, 0)) := by rw [hW]; exact (setRow_other _ _ _ _ (by omega)).trans ((setRow_other _ _ _ _ (by omega)).trans (row_up R34.out _ _))
  have hb : Below w.heap.size w W := by rw [hW]; exact below_row (below_row ((hb4.alloc (by omega) _).alloc (by simp; omega) _) (by omega) _) (by omega) _
  have k33 := (cell_of_row W w.heap.size 33 _ _ _ rH).trans h33
  clear hW rH hb4 R34 h33
  go_upto_region 6 with fail
  go_wp2_with (first | (refine wpList_load_row_g (by rfl) 38 _ rfl _ rfl 38 (ccs 0 0 0 0 0 0 0 0 0 false 0) (0, 0) _ rC.out Tryd.underlying38 rfl size_commit ?_) | (refine wpList_load_row_g (by rfl) 34 _ rfl _ rfl 34 (hcs (fun _ => 0) 0 0 0) (0, 0) _ rX.out Tryd.underlying34 rfl size_hart ?_))
  go_ret
  exact ⟨rfl, hb⟩

end Go.Proofs.YtpiohehijkpghaaDoor
