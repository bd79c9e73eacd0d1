/- Harts and commits by value as rows of cells; what the document's small functions of chapter 4 come to: a trap, a sum of two words, the operation of an instruction with a number. -/
import Derived.Test.YtpiohehijkpghaaDoorHartA
import Derived.Test.YtpiohehijkpghaaDoorMemA
import Derived.Test.YtpiohehijkpghaaDoorRef1b
import Derived.Deep.WholeRow
import Derived.Laws.Rows
import Derived.Laws.Tables
import Derived.Test.YtpiohehijkpghaaDoorDecWr
import Derived.Test.YtpiohehijkpghaaDoorMemS
import Derived.Laws.DeepBits32
namespace Go.Proofs.YtpiohehijkpghaaDoor
open Go.RowKit
open Hy
set_option linter.unusedVariables false

/-- A commit's cells. -/
abbrev ccs (pc next st ca rd val at_ many data : Int) (out : Bool) (told : Int) : Array Value := #[.int .u32 pc, .int .u32 next, .int .i64 st, .int .i64 ca, .int .i64 rd, .int .u32 val, .int .u32 at_, .int .i64 many, .int .u32 data, .bool out, .int .u32 told]
/-- A commit by value. -/
abbrev cv (pc next st ca rd val at_ many data : Int) (out : Bool) (told : Int) : Value := .agg (ccs pc next st ca rd val at_ many data out told)

theorem size_did : (Tryd.prog.info? 42).map (·.size) = some 47 := by kernel_rfl
theorem size_hart : (Tryd.prog.info? 34).map (·.size) = some 35 := by kernel_rfl
theorem size_commit : (Tryd.prog.info? 38).map (·.size) = some 11 := by kernel_rfl

theorem wpList_build_to {P : Program} {ops : Array Oper} {rest : List Oper} {o : Oper} {a : Act} {w : World} {Q : Exit → Act → World → Prop} (hg : o.guard = none) (t : TypeId) (parts : Array (Nat × Operand)) (ho : o.op = .build t parts) (cells : Array Value)
    (hb : P.built t (parts.map fun (i, x) => (i, a.eval x)).toList = some cells)
    (h : wpList P ops Q rest (a.put o.dst (.agg cells)) w) : wpList P ops Q (o :: rest) a w :=
  wpList_build hg t parts ho (by rw [hb]; rfl) (by rw [hb]; exact h)

theorem wpList_build3 {P : Program} {ops : Array Oper} {rest : List Oper} {o : Oper} {a : Act} {w : World} {Q : Exit → Act → World → Prop} (hg : o.guard = none) (t : TypeId) (i0 i1 i2 : Nat) (x0 x1 x2 : Operand) (ho : o.op = .build t #[(i0, x0), (i1, x1), (i2, x2)])
    (v0 v1 v2 : Value) (e0 : a.eval x0 = v0) (e1 : a.eval x1 = v1) (e2 : a.eval x2 = v2) (cells : Array Value)
    (hb : P.built t [(i0, v0), (i1, v1), (i2, v2)] = some cells)
    (h : wpList P ops Q rest (a.put o.dst (.agg cells)) w) : wpList P ops Q (o :: rest) a w :=
  wpList_build_to hg t _ ho cells (by simp [e0, e1, e2, hb]) h

theorem built_did' (c0 c1 c2 c3 c4 c5 c6 c7 c8 c9 c10 h0 h1 h2 h3 h4 h5 h6 h7 h8 h9 h10 h11 h12 h13 h14 h15 h16 h17 h18 h19 h20 h21 h22 h23 h24 h25 h26 h27 h28 h29 h30 h31 h32 h33 h34 : Value) (p : Option Addr) (n c : Nat) : Tryd.prog.built 42 [(0, .agg #[c0, c1, c2, c3, c4, c5, c6, c7, c8, c9, c10]), (1, .agg #[h0, h1, h2, h3, h4, h5, h6, h7, h8, h9, h10, h11, h12, h13, h14, h15, h16, h17, h18, h19, h20, h21, h22, h23, h24, h25, h26, h27, h28, h29, h30, h31, h32, h33, h34]), (2, .slice p n c)] = some (#[c0, c1, c2, c3, c4, c5, c6, c7, c8, c9, c10] ++ #[h0, h1, h2, h3, h4, h5, h6, h7, h8, h9, h10, h11, h12, h13, h14, h15, h16, h17, h18, h19, h20, h21, h22, h23, h24, h25, h26, h27, h28, h29, h30, h31, h32, h33, h34] ++ #[.slice p n c]) := by kernel_rfl

theorem array11 {α : Type} {cs : Array α} (h : cs.size = 11) : ∃ c0 c1 c2 c3 c4 c5 c6 c7 c8 c9 c10, cs = #[c0, c1, c2, c3, c4, c5, c6, c7, c8, c9, c10] := by
  obtain ⟨l⟩ := cs
  match l, h with
  | [c0, c1, c2, c3, c4, c5, c6, c7, c8, c9, c10], _ => exact ⟨c0, c1, c2, c3, c4, c5, c6, c7, c8, c9, c10, rfl⟩
theorem list_split {α : Type} {l : List α} {n : Nat} (h : l.length = n + 1) : ∃ x t, l = x :: t ∧ t.length = n := by
  cases l with
  | nil => simp at h
  | cons x t => exact ⟨x, t, rfl, by simpa using h⟩
theorem array35 {α : Type} {cs : Array α} (h : cs.size = 35) : ∃ h0 h1 h2 h3 h4 h5 h6 h7 h8 h9 h10 h11 h12 h13 h14 h15 h16 h17 h18 h19 h20 h21 h22 h23 h24 h25 h26 h27 h28 h29 h30 h31 h32 h33 h34, cs = #[h0, h1, h2, h3, h4, h5, h6, h7, h8, h9, h10, h11, h12, h13, h14, h15, h16, h17, h18, h19, h20, h21, h22, h23, h24, h25, h26, h27, h28, h29, h30, h31, h32, h33, h34] := by
  obtain ⟨l⟩ := cs
  replace h : l.length = 35 := by simpa using h
  obtain ⟨h0, l0, rfl, g0⟩ := list_split h
  obtain ⟨h1, l1, rfl, g1⟩ := list_split g0
  obtain ⟨h2, l2, rfl, g2⟩ := list_split g1
  obtain ⟨h3, l3, rfl, g3⟩ := list_split g2
  obtain ⟨h4, l4, rfl, g4⟩ := list_split g3
  obtain ⟨h5, l5, rfl, g5⟩ := list_split g4
  obtain ⟨h6, l6, rfl, g6⟩ := list_split g5
  obtain ⟨h7, l7, rfl, g7⟩ := list_split g6
  obtain ⟨h8, l8, rfl, g8⟩ := list_split g7
  obtain ⟨h9, l9, rfl, g9⟩ := list_split g8
  obtain ⟨h10, l10, rfl, g10⟩ := list_split g9
  obtain ⟨h11, l11, rfl, g11⟩ := list_split g10
  obtain ⟨h12, l12, rfl, g12⟩ := list_split g11
  obtain ⟨h13, l13, rfl, g13⟩ := list_split g12
  obtain ⟨h14, l14, rfl, g14⟩ := list_split g13
  obtain ⟨h15, l15, rfl, g15⟩ := list_split g14
  obtain ⟨h16, l16, rfl, g16⟩ := list_split g15
  obtain ⟨h17, l17, rfl, g17⟩ := list_split g16
  obtain ⟨h18, l18, rfl, g18⟩ := list_split g17
  obtain ⟨h19, l19, rfl, g19⟩ := list_split g18
  obtain ⟨h20, l20, rfl, g20⟩ := list_split g19
  obtain ⟨h21, l21, rfl, g21⟩ := list_split g20
  obtain ⟨h22, l22, rfl, g22⟩ := list_split g21
  obtain ⟨h23, l23, rfl, g23⟩ := list_split g22
  obtain ⟨h24, l24, rfl, g24⟩ := list_split g23
  obtain ⟨h25, l25, rfl, g25⟩ := list_split g24
  obtain ⟨h26, l26, rfl, g26⟩ := list_split g25
  obtain ⟨h27, l27, rfl, g27⟩ := list_split g26
  obtain ⟨h28, l28, rfl, g28⟩ := list_split g27
  obtain ⟨h29, l29, rfl, g29⟩ := list_split g28
  obtain ⟨h30, l30, rfl, g30⟩ := list_split g29
  obtain ⟨h31, l31, rfl, g31⟩ := list_split g30
  obtain ⟨h32, l32, rfl, g32⟩ := list_split g31
  obtain ⟨h33, l33, rfl, g33⟩ := list_split g32
  obtain ⟨h34, l34, rfl, g34⟩ := list_split g33
  obtain rfl : l34 = [] := List.length_eq_zero_iff.1 g34
  exact ⟨h0, h1, h2, h3, h4, h5, h6, h7, h8, h9, h10, h11, h12, h13, h14, h15, h16, h17, h18, h19, h20, h21, h22, h23, h24, h25, h26, h27, h28, h29, h30, h31, h32, h33, h34, rfl⟩

theorem built_did (C H : Array Value) (p : Option Addr) (n c : Nat) (hC : C.size = 11) (hH : H.size = 35) : Tryd.prog.built 42 [(0, .agg C), (1, .agg H), (2, .slice p n c)] = some (C ++ H ++ #[.slice p n c]) := by
  obtain ⟨c0, c1, c2, c3, c4, c5, c6, c7, c8, c9, c10, rfl⟩ := array11 hC
  obtain ⟨h0, h1, h2, h3, h4, h5, h6, h7, h8, h9, h10, h11, h12, h13, h14, h15, h16, h17, h18, h19, h20, h21, h22, h23, h24, h25, h26, h27, h28, h29, h30, h31, h32, h33, h34, rfl⟩ := array35 hH
  exact built_did' c0 c1 c2 c3 c4 c5 c6 c7 c8 c9 c10 h0 h1 h2 h3 h4 h5 h6 h7 h8 h9 h10 h11 h12 h13 h14 h15 h16 h17 h18 h19 h20 h21 h22 h23 h24 h25 h26 h27 h28 h29 h30 h31 h32 h33 h34 p n c

/-- A row of cells that holds no pointer, as a store asks. -/
def Ones (H : Array Value) : Prop := H.all (·.oneCell') = true

theorem Ones.set {H : Array Value} (h : Ones H) (i : Nat) (v : Value) (hv : v.oneCell' = true) : Ones (H.setIfInBounds i v) := by
  unfold Ones at *
  rw [Array.all_eq_true_iff_forall_mem] at *
  intro x hx
  obtain ⟨j, hj, e⟩ := Array.getElem_of_mem hx
  have hj' : j < H.size := by simpa using hj
  rw [Array.getElem_setIfInBounds hj'] at e
  split at e
  · rw [← e]; exact hv
  · rw [← e]; exact h _ (Array.getElem_mem hj')

theorem Ones.app {A B : Array Value} (ha : Ones A) (hb : Ones B) : Ones (A ++ B) := by
  unfold Ones at *
  rw [Array.all_append, ha, hb]; rfl

theorem below_row {B : Nat} {a w : World} (h : Below B a w) {g : Nat} (hg : B ≤ g) (cs : Array Value) : Below B a (w.setRow g cs) :=
  ⟨h.os, h.tape, h.output, by simpa using h.size, fun k hk => (setRow_other _ _ _ _ (by omega)).trans (h.block k hk)⟩

/-- The zero of what the document's Step answers. -/
theorem ones_ccs (pc next st ca rd val at_ many data : Int) (out : Bool) (told : Int) : Ones (ccs pc next st ca rd val at_ many data out told) := by unfold Ones; simp [Value.oneCell']
theorem ones_slice (p : Option Addr) (n c : Nat) : Ones #[.slice p n c] := by unfold Ones; simp [Value.oneCell']

/-- What an answer of the document's Step is made of. -/
structure Did (D C H : Array Value) (p : Option Addr) (n c : Nat) : Prop where
  is : D = C ++ H ++ #[.slice p n c]
  hC : C.size = 11
  hH : H.size = 35
  oC : Ones C
  oH : Ones H

theorem Did.size {D C H : Array Value} {p : Option Addr} {n c : Nat} (h : Did D C H p n c) : D.size = 47 := by rw [h.is]; simp [h.hC, h.hH]
theorem Did.info {D C H : Array Value} {p : Option Addr} {n c : Nat} (h : Did D C H p n c) : (Tryd.prog.info? 42).map (·.size) = some D.size := by rw [size_did, h.size]
theorem Did.ones {D C H : Array Value} {p : Option Addr} {n c : Nat} (h : Did D C H p n c) : Ones D := by rw [h.is]; exact (h.oC.app h.oH).app (ones_slice p n c)
theorem Did.built {D C H : Array Value} {p : Option Addr} {n c : Nat} (h : Did D C H p n c) : Tryd.prog.built 42 [(0, .agg C), (1, .agg H), (2, .slice p n c)] = some D := by rw [h.is]; exact built_did C H p n c h.hC h.hH

set_option maxRecDepth 20000 in
set_option maxHeartbeats 1000000 in
theorem qtrap_any (H : Array Value) (pc k : Int) (p : Option Addr) (n c : Nat) (w : World) (hH : H.size = 35) (hO : Ones H) (h32 : H[32]? = some (.int .u32 pc)) (h33 : ∃ z, H[33]? = some (.int .i64 z)) (h34 : ∃ z, H[34]? = some (.int .i64 z)) (D : Array Value)
    (hD : Hid (Did D (ccs pc pc 2 k 0 0 0 0 0 false 0) ((H.setIfInBounds 33 (.int .i64 2)).setIfInBounds 34 (.int .i64 k)) p n c)) :
    Calls Tryd.prog 37 #[.agg H, .slice p n c, .int .i64 k] w fun e w' => e = .returned (.agg D) ∧ Below w.heap.size w w' := by
  obtain ⟨z3, h33⟩ := h33
  obtain ⟨z4, h34⟩ := h34
  have HI : Hid ((Tryd.prog.info? 34).map (·.size) = some ((H.setIfInBounds 33 (.int .i64 2)).setIfInBounds 34 (.int .i64 k)).size) := by show _ = _; rw [size_hart]; simp [hH]
  clear hH hO
  go_enter Tryd.func37, Tryd.ntmps37
  go_wp2_with (first | (refine wpList_load_row rfl 34 _ rfl _ rfl 34 _ (0, 0) _ (heap_alloc2_old _ _ _) Tryd.underlying34 rfl HI.out ?_) | (refine wpList_build3 rfl 42 0 1 2 _ _ _ rfl _ _ _ rfl rfl rfl _ hD.out.built ?_) | (refine wpList_store_row rfl 42 _ _ rfl _ _ rfl rfl 42 _ (heap_alloc2_new _ _ _) hD.out.info hD.out.size.symm hD.out.ones ?_))
  exact bodyPost_ret (v := .agg D) (results_cell_row Tryd.results37 _ _ _ 42 D (0, 0) _ rfl (setRow_heap _ _ _ _ _ _ (heap_alloc2_new _ _ _)) Tryd.underlying42 rfl hD.out.info) rfl ⟨rfl, below_row (((Below.refl _ _).alloc (Nat.le_refl _) _).alloc (by simp) _) (by simp) _⟩

theorem row_up {w : World} {g : Nat} {o : Obj} (h : w.heap[g]? = some o) (o1 o2 : Obj) : ((w.alloc o1).alloc o2).heap[g]? = some o := by
  have hlt : g < w.heap.size := (Array.getElem?_eq_some_iff.1 h).1
  rw [heap_alloc_old _ _ (by simp; omega), heap_alloc_old _ _ hlt]
  exact h

theorem info_hart {H : Array Value} (h : H.size = 35) : (Tryd.prog.info? 34).map (·.size) = some H.size := by rw [size_hart, h]

theorem drewN_alloc (w : World) (o : Obj) (n : Nat) : (w.alloc o).drewN n = (w.drewN n).alloc o := rfl

theorem qsum_any (a b : Int) (a0 : 0 ≤ a) (a1 : a ≤ 4294967295) (b0 : 0 ≤ b) (b1 : b ≤ 4294967295) (w : World) :
    Calls Tryd.prog 39 #[.int .u32 a, .int .u32 b] w fun e w' => e = .returned (.int .u32 ((a + b) % 4294967296)) ∧ w' = w := by
  go_enter Tryd.func39, Tryd.ntmps39
  go_wp2_with (go_at_call 44; refine (ralu28 a b a0 a1 b0 b1 _).mono ?_; rintro e w' ⟨rfl, rfl⟩)
  go_ret
  exact ⟨rfl, rfl⟩

theorem qoperation_any (op : Int) (w : World) :
    Calls Tryd.prog 45 #[.int .i64 op] w fun e w' => e = .returned (.int .i64 (opn op)) ∧ w' = w := by
  go_enter Tryd.func45, Tryd.ntmps45
  go_wp2
  all_goals (go_ret; refine ⟨?_, rfl⟩; simp_all [opn])
end Go.Proofs.YtpiohehijkpghaaDoor
namespace Go.Proofs.YtpiohehijkpghaaDoor
open Go.RowKit
open Hy
set_option linter.unusedVariables false

theorem hMay_any (H : Array Value) (z0 st ca : Int) (h0 : H[0]? = some (.int .u32 z0)) (h33 : H[33]? = some (.int .i64 st)) (h34 : H[34]? = some (.int .i64 ca)) (w : World) :
    Calls Tryd.prog 15 #[.agg H] w fun e w' => e = .returned (.bool (z0 == 0 && (((st == 0 || st == 1) && ca == 0) || (st == 2 && decide (1 ≤ ca) && decide (ca ≤ 6))))) ∧ Below w.heap.size w w' := by
  go_enter Tryd.func15, Tryd.ntmps15
  go_wp2
  all_goals (go_ret; refine ⟨?_, (Below.refl _ _).alloc (Nat.le_refl _) _⟩)
  all_goals (simp_all; try omega)

theorem qMayH_any (H : Array Value) (z0 st ca : Int) (h0 : H[0]? = some (.int .u32 z0)) (h33 : H[33]? = some (.int .i64 st)) (h34 : H[34]? = some (.int .i64 ca)) (w : World) :
    Calls Tryd.prog 16 #[.agg H] w fun e w' => e = .returned (.bool (z0 == 0 && (((st == 0 || st == 1) && ca == 0) || (st == 2 && decide (1 ≤ ca) && decide (ca ≤ 6))))) ∧ Below w.heap.size w w' := by
  go_enter Tryd.func16, Tryd.ntmps16
  go_wp2
  all_goals (go_ret; refine ⟨?_, (Below.refl _ _).alloc (Nat.le_refl _) _⟩)
  all_goals (simp_all; try omega)

theorem htrap_any (pc k : Int) (w : World) :
    Calls Tryd.prog 53 #[.int .u32 pc, .int .i64 k] w fun e w' => e = .returned (cv pc pc 2 k 0 0 0 0 0 false 0) ∧ Below w.heap.size w w' := by
  go_enter Tryd.func53, Tryd.ntmps53
  go_wp2
  exact bodyPost_ret (v := cv pc pc 2 k 0 0 0 0 0 false 0) (results_cell_row Tryd.results53 _ _ _ 38 _ (0, 0) _ rfl (heap_alloc_new _ _) Tryd.underlying38 rfl size_commit) rfl ⟨rfl, (Below.refl _ _).alloc (Nat.le_refl _) _⟩

theorem honward_any (pc : Int) (p0 : 0 ≤ pc) (p1 : pc ≤ 4294967295) (w : World) :
    Calls Tryd.prog 66 #[.int .u32 pc] w fun e w' => e = .returned (cv pc ((pc + 4) % 4294967296) 0 0 0 0 0 0 0 false 0) ∧ Below w.heap.size w w' := by
  go_enter Tryd.func66, Tryd.ntmps66
  go_wp2
  exact bodyPost_ret (v := cv pc ((pc + 4) % 4294967296) 0 0 0 0 0 0 0 false 0) (results_cell_row Tryd.results66 _ _ _ 38 _ (0, 0) _ rfl (heap_alloc_new _ _) Tryd.underlying38 rfl size_commit) rfl ⟨rfl, (Below.refl _ _).alloc (Nat.le_refl _) _⟩

theorem hgive_no (pc next v : Int) (w : World) :
    Calls Tryd.prog 68 #[cv pc next 0 0 0 0 0 0 0 false 0, .int .i64 0, .int .u32 v] w fun e w' => e = .returned (cv pc next 0 0 0 0 0 0 0 false 0) ∧ Below w.heap.size w w' := by
  go_enter Tryd.func68, Tryd.ntmps68
  go_wp2
  exact bodyPost_ret (v := cv pc next 0 0 0 0 0 0 0 false 0) (results_cell_row Tryd.results68 _ _ _ 38 _ (0, 0) _ rfl (heap_alloc2_new _ _ _) Tryd.underlying38 rfl size_commit) rfl ⟨rfl, ((Below.refl _ _).alloc (Nat.le_refl _) _).alloc (by simp) _⟩

theorem hgive_yes (pc next v : Int) (rd : Nat) (hz : ((rd : Int) != 0) = true) (w : World) :
    Calls Tryd.prog 68 #[cv pc next 0 0 0 0 0 0 0 false 0, .int .i64 rd, .int .u32 v] w fun e w' => e = .returned (cv pc next 0 0 rd v 0 0 0 false 0) ∧ Below w.heap.size w w' := by
  go_enter Tryd.func68, Tryd.ntmps68
  go_wp2
  exact bodyPost_ret (v := cv pc next 0 0 rd v 0 0 0 false 0) (results_cell_row Tryd.results68 _ _ _ 38 _ (0, 0) _ rfl (heap_alloc2_new _ _ _) Tryd.underlying38 rfl size_commit) rfl ⟨rfl, ((Below.refl _ _).alloc (Nat.le_refl _) _).alloc (by simp) _⟩

/-- The program's table of operations lies in memory. -/
def itab : List Int := [0, 0, 0, 0, 0, 0, 0, 0, 0, 0, 0, 0, 0, 0, 0, 0, 0, 0, 0, 28, 31, 32, 33, 36, 37, 30, 34, 35, 0, 0, 0, 0, 0, 0, 0, 0, 0, 0, 0, 0, 0, 0, 0, 0, 0, 0, 0, 0, 0]
def Tab2 (w : World) : Prop := ∀ i, i < 49 → w.cell? ⟨1, i, none⟩ = some (.int .i64 (itab.getD i 0))
theorem Tab2.size {w : World} (h : Tab2 w) : 1 < w.heap.size := World.block_lt_of_cell? _ _ (h 0 (by omega))
theorem Tab2.below {w w' : World} {B : Nat} (h : Tab2 w) (hb : Below B w w') (hB : 1 < B) : Tab2 w' :=
  fun i hi => (hb.cell (p := ⟨1, i, none⟩) hB).trans (h i hi)
theorem Tab2.alloc {w : World} (h : Tab2 w) (o : Obj) : Tab2 (w.alloc o) :=
  h.below ((Below.refl w.heap.size w).alloc (Nat.le_refl _) o) h.size

theorem andNot1 (a : Int) (a0 : 0 ≤ a) (a1 : a ≤ 4294967295) : bits .andNot .u32 a 1 = a - a % 2 := by
  rw [u32_andNot a 1 a0 (by omega) (by omega) (by omega)]
  rw [show (4294967295 - (1 : Int).toNat) = 4294967294 from rfl, and_even _ (by omega)]
  omega

/-- The Imm as a word. -/
abbrev wd (I : Int) : Int := I % 4294967296

theorem hnext_jal (rd s1 s2 I pc A B : Int) (p0 : 0 ≤ pc) (p1 : pc ≤ 4294967295) (w : World) :
    Calls Tryd.prog 69 #[iv 3 rd s1 s2 I, .int .u32 pc, .int .u32 A, .int .u32 B] w fun e w' => e = .returned (.int .u32 ((pc + wd I) % 4294967296)) ∧ Below w.heap.size w w' := by
  go_enter Tryd.func69, Tryd.ntmps69
  go_wp2
  go_ret
  exact ⟨rfl, (Below.refl _ _).alloc (Nat.le_refl _) _⟩

theorem hnext_go (op rd s1 s2 I pc A B : Int) (p0 : 0 ≤ pc) (p1 : pc ≤ 4294967295) (hq : (op == 3) = false)
    (q : ∀ W, Calls Tryd.prog 73 #[.int .i64 op, .int .u32 A, .int .u32 B] W fun e w' => e = .returned (.bool true) ∧ w' = W) (w : World) :
    Calls Tryd.prog 69 #[iv op rd s1 s2 I, .int .u32 pc, .int .u32 A, .int .u32 B] w fun e w' => e = .returned (.int .u32 ((pc + wd I) % 4294967296)) ∧ Below w.heap.size w w' := by
  go_enter Tryd.func69, Tryd.ntmps69
  go_wp2_with fail
  refine (q _).mono ?_
  rintro e w' ⟨rfl, rfl⟩
  go_wp2
  go_ret
  exact ⟨rfl, (Below.refl _ _).alloc (Nat.le_refl _) _⟩

theorem hnext_on (op rd s1 s2 I pc A B : Int) (p0 : 0 ≤ pc) (p1 : pc ≤ 4294967295) (hq : (op == 3) = false) (hr : (op == 4) = false)
    (q : ∀ W, Calls Tryd.prog 73 #[.int .i64 op, .int .u32 A, .int .u32 B] W fun e w' => e = .returned (.bool false) ∧ w' = W) (w : World) :
    Calls Tryd.prog 69 #[iv op rd s1 s2 I, .int .u32 pc, .int .u32 A, .int .u32 B] w fun e w' => e = .returned (.int .u32 ((pc + 4) % 4294967296)) ∧ Below w.heap.size w w' := by
  go_enter Tryd.func69, Tryd.ntmps69
  go_wp2_with fail
  refine (q _).mono ?_
  rintro e w' ⟨rfl, rfl⟩
  go_wp2
  go_ret
  exact ⟨rfl, (Below.refl _ _).alloc (Nat.le_refl _) _⟩

theorem hnext_jalr (rd s1 s2 I pc A B : Int) (p0 : 0 ≤ pc) (p1 : pc ≤ 4294967295) (a0 : 0 ≤ A) (a1 : A ≤ 4294967295)
    (q : ∀ W, Calls Tryd.prog 73 #[.int .i64 4, .int .u32 A, .int .u32 B] W fun e w' => e = .returned (.bool false) ∧ w' = W) (w : World) :
    Calls Tryd.prog 69 #[iv 4 rd s1 s2 I, .int .u32 pc, .int .u32 A, .int .u32 B] w fun e w' => e = .returned (.int .u32 ((A + wd I) % 4294967296 - (A + wd I) % 4294967296 % 2)) ∧ Below w.heap.size w w' := by
  have hb := andNot1 ((A + wd I) % 4294967296) (by omega) (by omega)
  go_enter Tryd.func69, Tryd.ntmps69
  go_wp2_with fail
  refine (q _).mono ?_
  rintro e w' ⟨rfl, rfl⟩
  go_wp2
  go_ret
  exact ⟨ret_int (by rw [show (A + I) % 4294967296 = (A + wd I) % 4294967296 by unfold wd; omega]; exact hb), (Below.refl _ _).alloc (Nat.le_refl _) _⟩

theorem hreckon_lui (rd s1 s2 I pc A B : Int) (w : World) :
    Calls Tryd.prog 70 #[iv 1 rd s1 s2 I, .int .u32 pc, .int .u32 A, .int .u32 B] w fun e w' => e = .returned (.int .u32 (wd I)) ∧ Below w.heap.size w w' := by
  go_enter Tryd.func70, Tryd.ntmps70
  go_wp2
  go_ret
  exact ⟨rfl, (Below.refl _ _).alloc (Nat.le_refl _) _⟩

theorem hreckon_auipc (rd s1 s2 I pc A B : Int) (p0 : 0 ≤ pc) (p1 : pc ≤ 4294967295) (w : World) :
    Calls Tryd.prog 70 #[iv 2 rd s1 s2 I, .int .u32 pc, .int .u32 A, .int .u32 B] w fun e w' => e = .returned (.int .u32 ((pc + wd I) % 4294967296)) ∧ Below w.heap.size w w' := by
  go_enter Tryd.func70, Tryd.ntmps70
  go_wp2
  go_ret
  exact ⟨rfl, (Below.refl _ _).alloc (Nat.le_refl _) _⟩

theorem hreckon_jal (rd s1 s2 I pc A B : Int) (p0 : 0 ≤ pc) (p1 : pc ≤ 4294967295) (w : World) :
    Calls Tryd.prog 70 #[iv 3 rd s1 s2 I, .int .u32 pc, .int .u32 A, .int .u32 B] w fun e w' => e = .returned (.int .u32 ((pc + 4) % 4294967296)) ∧ Below w.heap.size w w' := by
  go_enter Tryd.func70, Tryd.ntmps70
  go_wp2
  go_ret
  exact ⟨rfl, (Below.refl _ _).alloc (Nat.le_refl _) _⟩

theorem hreckon_jalr (rd s1 s2 I pc A B : Int) (p0 : 0 ≤ pc) (p1 : pc ≤ 4294967295) (w : World) :
    Calls Tryd.prog 70 #[iv 4 rd s1 s2 I, .int .u32 pc, .int .u32 A, .int .u32 B] w fun e w' => e = .returned (.int .u32 ((pc + 4) % 4294967296)) ∧ Below w.heap.size w w' := by
  go_enter Tryd.func70, Tryd.ntmps70
  go_wp2
  go_ret
  exact ⟨rfl, (Below.refl _ _).alloc (Nat.le_refl _) _⟩

theorem hreckon_imm (m : Nat) (rd s1 s2 I pc A B O V : Int) (m0 : 5 ≤ m) (m1 : m < 49) (ht : itab.getD m 0 = O) (hO : (O != 0) = true)
    (q : ∀ W, Calls Tryd.prog 74 #[.int .i64 O, .int .u32 A, .int .u32 (wd I)] W fun e w' => e = .returned (.int .u32 V) ∧ w' = W) (w : World) (hT : Tab2 w) :
    Calls Tryd.prog 70 #[iv m rd s1 s2 I, .int .u32 pc, .int .u32 A, .int .u32 B] w fun e w' => e = .returned (.int .u32 V) ∧ Below w.heap.size w w' := by
  have k := hT m m1
  rw [ht] at k
  have hs := hT.size
  have n1 : ((m : Int) == 1) = false := beq_eq_false_iff_ne.2 (by omega)
  have n2 : ((m : Int) == 2) = false := beq_eq_false_iff_ne.2 (by omega)
  have n3 : ((m : Int) == 3) = false := beq_eq_false_iff_ne.2 (by omega)
  have n4 : ((m : Int) == 4) = false := beq_eq_false_iff_ne.2 (by omega)
  clear hT ht
  go_enter Tryd.func70, Tryd.ntmps70
  go_wp2_with fail
  refine (q _).mono ?_
  rintro e w' ⟨rfl, rfl⟩
  go_wp2
  go_ret
  exact ⟨rfl, (Below.refl _ _).alloc (Nat.le_refl _) _⟩

theorem hreckon_reg (m : Nat) (rd s1 s2 I pc A B V : Int) (m0 : 5 ≤ m) (m1 : m < 49) (ht : itab.getD m 0 = 0)
    (q : ∀ W, Calls Tryd.prog 74 #[.int .i64 m, .int .u32 A, .int .u32 B] W fun e w' => e = .returned (.int .u32 V) ∧ w' = W) (w : World) (hT : Tab2 w) :
    Calls Tryd.prog 70 #[iv m rd s1 s2 I, .int .u32 pc, .int .u32 A, .int .u32 B] w fun e w' => e = .returned (.int .u32 V) ∧ Below w.heap.size w w' := by
  have k := hT m m1
  rw [ht] at k
  have hs := hT.size
  have n1 : ((m : Int) == 1) = false := beq_eq_false_iff_ne.2 (by omega)
  have n2 : ((m : Int) == 2) = false := beq_eq_false_iff_ne.2 (by omega)
  have n3 : ((m : Int) == 3) = false := beq_eq_false_iff_ne.2 (by omega)
  have n4 : ((m : Int) == 4) = false := beq_eq_false_iff_ne.2 (by omega)
  clear hT ht
  go_enter Tryd.func70, Tryd.ntmps70
  go_wp2_with fail
  refine (q _).mono ?_
  rintro e w' ⟨rfl, rfl⟩
  go_wp2
  go_ret
  exact ⟨rfl, (Below.refl _ _).alloc (Nat.le_refl _) _⟩
end Go.Proofs.YtpiohehijkpghaaDoor
