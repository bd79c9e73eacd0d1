/- Harts and commits by value as rows of cells; what the document's small functions of chapter 4 come to: a trap, a sum of two words, the operation of an instruction with a number. -/
import Derived.Test.YteadfdcnpfkmkaaDoorHartA
import Derived.Test.YteadfdcnpfkmkaaDoorRef1b
import Derived.Deep.WholeRow
import Derived.Laws.Rows
import Derived.Laws.Tables
namespace Go.Proofs.YteadfdcnpfkmkaaDoor
open Go.RowKit
open Hy
set_option linter.unusedVariables false

/-- A commit's cells. -/
abbrev ccs (pc next st ca rd val at_ many data : Int) (out : Bool) (told : Int) : Array Value := #[.int .u32 pc, .int .u32 next, .int .i64 st, .int .i64 ca, .int .i64 rd, .int .u32 val, .int .u32 at_, .int .i64 many, .int .u32 data, .bool out, .int .u32 told]
/-- A commit by value. -/
abbrev cv (pc next st ca rd val at_ many data : Int) (out : Bool) (told : Int) : Value := .agg (ccs pc next st ca rd val at_ many data out told)

theorem size_did : (Tryd.prog.info? 42).map (·.size) = some 47 := by kernel_rfl
theorem size_hart : (Tryd.prog.info? 34).map (·.size) = some 35 := by kernel_rfl
theorem size_commit : (Tryd.prog.info? 38).map (·.size) = some 11 := by kernel_rfl

theorem wpList_build_to {P : Program} {ops : Array Oper} {rest : List Oper} {o : Oper} {a : Act} {w : World} {Q : Exit → Act → World → Prop} (hg : o.guard = none) (t : TypeId) (parts : Array (Nat × Operand)) (ho : o.op = .build t parts) (cells : Array Value)
    (hb : P.built t (parts.map fun (i, x) => (i, a.eval x)).toList = some cells)
    (h : wpList P ops Q rest (a.put o.dst (.agg cells)) w) : wpList P ops Q (o :: rest) a w :=
  wpList_build hg t parts ho (by rw [hb]; rfl) (by rw [hb]; exact h)

theorem wpList_build3 {P : Program} {ops : Array Oper} {rest : List Oper} {o : Oper} {a : Act} {w : World} {Q : Exit → Act → World → Prop} (hg : o.guard = none) (t : TypeId) (i0 i1 i2 : Nat) (x0 x1 x2 : Operand) (ho : o.op = .build t #[(i0, x0), (i1, x1), (i2, x2)])
    (v0 v1 v2 : Value) (e0 : a.eval x0 = v0) (e1 : a.eval x1 = v1) (e2 : a.eval x2 = v2) (cells : Array Value)
    (hb : P.built t [(i0, v0), (i1, v1), (i2, v2)] = some cells)
    (h : wpList P ops Q rest (a.put o.dst (.agg cells)) w) : wpList P ops Q (o :: rest) a w :=
  wpList_build_to hg t _ ho cells (by simp [e0, e1, e2, hb]) h

theorem built_did' (c0 c1 c2 c3 c4 c5 c6 c7 c8 c9 c10 h0 h1 h2 h3 h4 h5 h6 h7 h8 h9 h10 h11 h12 h13 h14 h15 h16 h17 h18 h19 h20 h21 h22 h23 h24 h25 h26 h27 h28 h29 h30 h31 h32 h33 h34 : Value) (p : Option Addr) (n c : Nat) : Tryd.prog.built 42 [(0, .agg #[c0, c1, c2, c3, c4, c5, c6, c7, c8, c9, c10]), (1, .agg #[h0, h1, h2, h3, h4, h5, h6, h7, h8, h9, h10, h11, h12, h13, h14, h15, h16, h17, h18, h19, h20, h21, h22, h23, h24, h25, h26, h27, h28, h29, h30, h31, h32, h33, h34]), (2, .slice p n c)] = some (#[c0, c1, c2, c3, c4, c5, c6, c7, c8, c9, c10] ++ #[h0, h1, h2, h3, h4, h5, h6, h7, h8, h9, h10, h11, h12, h13, h14, h15, h16, h17, h18, h19, h20, h21, h22, h23, h24, h25, h26, h27, h28, h29, h30, h31, h32, h33, h34] ++ #[.slice p n c]) := by kernel_rfl

theorem array11 {α : Type} {cs : Array α} (h : cs.size = 11) : ∃ c0 c1 c2 c3 c4 c5 c6 c7 c8 c9 c10, cs = #[c0, c1, c2, c3, c4, c5, c6, c7, c8, c9, c10] := by
  obtain ⟨l⟩ := cs
  match l, h with
  | [c0, c1, c2, c3, c4, c5, c6, c7, c8, c9, c10], _ => exact ⟨c0, c1, c2, c3, c4, c5, c6, c7, c8, c9, c10, rfl⟩
theorem list_split {α : Type} {l : List α} {n : Nat} (h : l.length = n + 1) : ∃ x t, l = x :: t ∧ t.length = n := by
  cases l with
  | nil => simp at h
  | cons x t => exact ⟨x, t, rfl, by simpa using h⟩
theorem array35 {α : Type} {cs : Array α} (h : cs.size = 35) : ∃ h0 h1 h2 h3 h4 h5 h6 h7 h8 h9 h10 h11 h12 h13 h14 h15 h16 h17 h18 h19 h20 h21 h22 h23 h24 h25 h26 h27 h28 h29 h30 h31 h32 h33 h34, cs = #[h0, h1, h2, h3, h4, h5, h6, h7, h8, h9, h10, h11, h12, h13, h14, h15, h16, h17, h18, h19, h20, h21, h22, h23, h24, h25, h26, h27, h28, h29, h30, h31, h32, h33, h34] := by
  obtain ⟨l⟩ := cs
  replace h : l.length = 35 := by simpa using h
  obtain ⟨h0, l0, rfl, g0⟩ := list_split h
  obtain ⟨h1, l1, rfl, g1⟩ := list_split g0
  obtain ⟨h2, l2, rfl, g2⟩ := list_split g1
  obtain ⟨h3, l3, rfl, g3⟩ := list_split g2
  obtain ⟨h4, l4, rfl, g4⟩ := list_split g3
  obtain ⟨h5, l5, rfl, g5⟩ := list_split g4
  obtain ⟨h6, l6, rfl, g6⟩ := list_split g5
  obtain ⟨h7, l7, rfl, g7⟩ := list_split g6
  obtain ⟨h8, l8, rfl, g8⟩ := list_split g7
  obtain ⟨h9, l9, rfl, g9⟩ := list_split g8
  obtain ⟨h10, l10, rfl, g10⟩ := list_split g9
  obtain ⟨h11, l11, rfl, g11⟩ := list_split g10
  obtain ⟨h12, l12, rfl, g12⟩ := list_split g11
  obtain ⟨h13, l13, rfl, g13⟩ := list_split g12
  obtain ⟨h14, l14, rfl, g14⟩ := list_split g13
  obtain ⟨h15, l15, rfl, g15⟩ := list_split g14
  obtain ⟨h16, l16, rfl, g16⟩ := list_split g15
  obtain ⟨h17, l17, rfl, g17⟩ := list_split g16
  obtain ⟨h18, l18, rfl, g18⟩ := list_split g17
  obtain ⟨h19, l19, rfl, g19⟩ := list_split g18
  obtain ⟨h20, l20, rfl, g20⟩ := list_split g19
  obtain ⟨h21, l21, rfl, g21⟩ := list_split g20
  obtain ⟨h22, l22, rfl, g22⟩ := list_split g21
  obtain ⟨h23, l23, rfl, g23⟩ := list_split g22
  obtain ⟨h24, l24, rfl, g24⟩ := list_split g23
  obtain ⟨h25, l25, rfl, g25⟩ := list_split g24
  obtain ⟨h26, l26, rfl, g26⟩ := list_split g25
  obtain ⟨h27, l27, rfl, g27⟩ := list_split g26
  obtain ⟨h28, l28, rfl, g28⟩ := list_split g27
  obtain ⟨h29, l29, rfl, g29⟩ := list_split g28
  obtain ⟨h30, l30, rfl, g30⟩ := list_split g29
  obtain ⟨h31, l31, rfl, g31⟩ := list_split g30
  obtain ⟨h32, l32, rfl, g32⟩ := list_split g31
  obtain ⟨h33, l33, rfl, g33⟩ := list_split g32
  obtain ⟨h34, l34, rfl, g34⟩ := list_split g33
  obtain rfl : l34 = [] := List.length_eq_zero_iff.1 g34
  exact ⟨h0, h1, h2, h3, h4, h5, h6, h7, h8, h9, h10, h11, h12, h13, h14, h15, h16, h17, h18, h19, h20, h21, h22, h23, h24, h25, h26, h27, h28, h29, h30, h31, h32, h33, h34, rfl⟩

theorem built_did (C H : Array Value) (p : Option Addr) (n c : Nat) (hC : C.size = 11) (hH : H.size = 35) : Tryd.prog.built 42 [(0, .agg C), (1, .agg H), (2, .slice p n c)] = some (C ++ H ++ #[.slice p n c]) := by
  obtain ⟨c0, c1, c2, c3, c4, c5, c6, c7, c8, c9, c10, rfl⟩ := array11 hC
  obtain ⟨h0, h1, h2, h3, h4, h5, h6, h7, h8, h9, h10, h11, h12, h13, h14, h15, h16, h17, h18, h19, h20, h21, h22, h23, h24, h25, h26, h27, h28, h29, h30, h31, h32, h33, h34, rfl⟩ := array35 hH
  exact built_did' c0 c1 c2 c3 c4 c5 c6 c7 c8 c9 c10 h0 h1 h2 h3 h4 h5 h6 h7 h8 h9 h10 h11 h12 h13 h14 h15 h16 h17 h18 h19 h20 h21 h22 h23 h24 h25 h26 h27 h28 h29 h30 h31 h32 h33 h34 p n c

/-- A row of cells that holds no pointer, as a store asks. -/
def Ones (H : Array Value) : Prop := H.all (·.oneCell') = true

theorem Ones.set {H : Array Value} (h : Ones H) (i : Nat) (v : Value) (hv : v.oneCell' = true) : Ones (H.setIfInBounds i v) := by
  unfold Ones at *
  rw [Array.all_eq_true_iff_forall_mem] at *
  intro x hx
  obtain ⟨j, hj, e⟩ := Array.getElem_of_mem hx
  have hj' : j < H.size := by simpa using hj
  rw [Array.getElem_setIfInBounds hj'] at e
  split at e
  · rw [← e]; exact hv
  · rw [← e]; exact h _ (Array.getElem_mem hj')

theorem Ones.app {A B : Array Value} (ha : Ones A) (hb : Ones B) : Ones (A ++ B) := by
  unfold Ones at *
  rw [Array.all_append, ha, hb]; rfl

theorem below_row {B : Nat} {a w : World} (h : Below B a w) {g : Nat} (hg : B ≤ g) (cs : Array Value) : Below B a (w.setRow g cs) :=
  ⟨h.os, h.tape, h.output, by simpa using h.size, fun k hk => (setRow_other _ _ _ _ (by omega)).trans (h.block k hk)⟩

/-- The zero of what the document's Step answers. -/
theorem ones_ccs (pc next st ca rd val at_ many data : Int) (out : Bool) (told : Int) : Ones (ccs pc next st ca rd val at_ many data out told) := by unfold Ones; simp [Value.oneCell']
theorem ones_slice (p : Option Addr) (n c : Nat) : Ones #[.slice p n c] := by unfold Ones; simp [Value.oneCell']

/-- What an answer of the document's Step is made of. -/
structure Did (D C H : Array Value) (p : Option Addr) (n c : Nat) : Prop where
  is : D = C ++ H ++ #[.slice p n c]
  hC : C.size = 11
  hH : H.size = 35
  oC : Ones C
  oH : Ones H

theorem Did.size {D C H : Array Value} {p : Option Addr} {n c : Nat} (h : Did D C H p n c) : D.size = 47 := by rw [h.is]; simp [h.hC, h.hH]
theorem Did.info {D C H : Array Value} {p : Option Addr} {n c : Nat} (h : Did D C H p n c) : (Tryd.prog.info? 42).map (·.size) = some D.size := by rw [size_did, h.size]
theorem Did.ones {D C H : Array Value} {p : Option Addr} {n c : Nat} (h : Did D C H p n c) : Ones D := by rw [h.is]; exact (h.oC.app h.oH).app (ones_slice p n c)
theorem Did.built {D C H : Array Value} {p : Option Addr} {n c : Nat} (h : Did D C H p n c) : Tryd.prog.built 42 [(0, .agg C), (1, .agg H), (2, .slice p n c)] = some D := by rw [h.is]; exact built_did C H p n c h.hC h.hH

set_option maxRecDepth 20000 in
set_option maxHeartbeats 1000000 in
theorem qtrap_any (H : Array Value) (pc k : Int) (p : Option Addr) (n c : Nat) (w : World) (hH : H.size = 35) (hO : Ones H) (h32 : H[32]? = some (.int .u32 pc)) (h33 : ∃ z, H[33]? = some (.int .i64 z)) (h34 : ∃ z, H[34]? = some (.int .i64 z)) (D : Array Value)
    (hD : Hid (Did D (ccs pc pc 2 k 0 0 0 0 0 false 0) ((H.setIfInBounds 33 (.int .i64 2)).setIfInBounds 34 (.int .i64 k)) p n c)) :
    Calls Tryd.prog 30 #[.agg H, .slice p n c, .int .i64 k] w fun e w' => e = .returned (.agg D) ∧ Below w.heap.size w w' := by
  obtain ⟨z3, h33⟩ := h33
  obtain ⟨z4, h34⟩ := h34
  have HI : Hid ((Tryd.prog.info? 34).map (·.size) = some ((H.setIfInBounds 33 (.int .i64 2)).setIfInBounds 34 (.int .i64 k)).size) := by show _ = _; rw [size_hart]; simp [hH]
  clear hH hO
  go_enter Tryd.func30, Tryd.ntmps30
  go_wp2_with (first | (refine wpList_load_row rfl 34 _ rfl _ rfl 34 _ (0, 0) _ (heap_alloc2_old _ _ _) Tryd.underlying34 rfl HI.out ?_) | (refine wpList_build3 rfl 42 0 1 2 _ _ _ rfl _ _ _ rfl rfl rfl _ hD.out.built ?_) | (refine wpList_store_row rfl 42 _ _ rfl _ _ rfl rfl 42 _ (heap_alloc2_new _ _ _) hD.out.info hD.out.size.symm hD.out.ones ?_))
  exact bodyPost_ret (v := .agg D) (results_cell_row Tryd.results30 _ _ _ 42 D (0, 0) _ rfl (setRow_heap _ _ _ _ _ _ (heap_alloc2_new _ _ _)) Tryd.underlying42 rfl hD.out.info) rfl ⟨rfl, below_row (((Below.refl _ _).alloc (Nat.le_refl _) _).alloc (by simp) _) (by simp) _⟩

theorem row_up {w : World} {g : Nat} {o : Obj} (h : w.heap[g]? = some o) (o1 o2 : Obj) : ((w.alloc o1).alloc o2).heap[g]? = some o := by
  have hlt : g < w.heap.size := (Array.getElem?_eq_some_iff.1 h).1
  rw [heap_alloc_old _ _ (by simp; omega), heap_alloc_old _ _ hlt]
  exact h

theorem info_hart {H : Array Value} (h : H.size = 35) : (Tryd.prog.info? 34).map (·.size) = some H.size := by rw [size_hart, h]

theorem drewN_alloc (w : World) (o : Obj) (n : Nat) : (w.alloc o).drewN n = (w.drewN n).alloc o := rfl

theorem qsum_any (a b : Int) (a0 : 0 ≤ a) (a1 : a ≤ 4294967295) (b0 : 0 ≤ b) (b1 : b ≤ 4294967295) (w : World) :
    Calls Tryd.prog 32 #[.int .u32 a, .int .u32 b] w fun e w' => e = .returned (.int .u32 ((a + b) % 4294967296)) ∧ w' = w := by
  go_enter Tryd.func32, Tryd.ntmps32
  go_wp2_with (go_at_call 37; refine (ralu28 a b a0 a1 b0 b1 _).mono ?_; rintro e w' ⟨rfl, rfl⟩)
  go_ret
  exact ⟨rfl, rfl⟩

/-- Alu's op of an instruction with a number. -/
def opn (op : Int) : Int := if op = 19 then 28 else if op = 20 then 31 else if op = 21 then 32 else if op = 22 then 33 else if op = 23 then 36 else if op = 24 then 37 else if op = 25 then 30 else if op = 26 then 34 else 35

theorem qoperation_any (op : Int) (w : World) :
    Calls Tryd.prog 38 #[.int .i64 op] w fun e w' => e = .returned (.int .i64 (opn op)) ∧ w' = w := by
  go_enter Tryd.func38, Tryd.ntmps38
  go_wp2
  all_goals (go_ret; refine ⟨?_, rfl⟩; simp_all [opn])
end Go.Proofs.YteadfdcnpfkmkaaDoor
