/- The small functions of package order, and of the document: what they come to. -/
import Derived.Test.YtpiohehijkpghabChecked
import Derived.Test.YtpiohehijkpghabOrdA
import Derived.ProofKit
import Derived.Below
import Derived.Deep.MidRow
import Derived.Deep.WholeRow
import Derived.Laws.Rows
import Derived.Laws.Tables
import Derived.Deep.QuietTactic
import Derived.BigQuiet
import Derived.Deep.Cut
import Derived.Deep.RegionWith
import Derived.Deep.RegionHeld
import Derived.Shelf.Abstract
import Derived.Lib.SliceRun
namespace Go.Proofs.Ytpiohehijkpghab
open Go.RowKit
open Hy
set_option linter.unusedVariables false
theorem info7 : (Try.prog.info? 76).map (·.size) = some 7 := by kernel_rfl
theorem heap_lt {w : World} {b : Nat} {o : Obj} (h : w.heap[b]? = some o) : b < w.heap.size := (Array.getElem?_eq_some_iff.1 h).1
theorem below_row {B : Nat} {a w : World} (h : Below B a w) {g : Nat} (hg : B ≤ g) (cs : Array Value) : Below B a (w.setRow g cs) :=
  ⟨h.os, h.tape, h.output, by simpa using h.size, fun k hk => (setRow_other _ _ _ _ (by omega)).trans (h.block k hk)⟩
theorem one_box {Φ : World → Prop} {w : World} {A : Obj} (h : ∀ W : World, W.heap[w.heap.size]? = some A → Below w.heap.size w W → Φ W) : Φ (w.alloc A) :=
  h _ (heap_alloc_new _ _) ((Below.refl _ _).alloc (Nat.le_refl _) _)
theorem two_boxes {Φ : World → Prop} {w : World} {A B : Obj} (h : ∀ W : World, W.heap[w.heap.size]? = some A → W.heap[w.heap.size + 1]? = some B → Below w.heap.size w W → w.heap.size + 2 ≤ W.heap.size → Φ W) : Φ ((w.alloc A).alloc B) :=
  h _ (heap_alloc2_old _ _ _) (heap_alloc2_new _ _ _) (((Below.refl _ _).alloc (Nat.le_refl _) _).alloc (by simp) _) (by simp)
theorem yieldsIf_load_row {P : Program} {ops : Array Oper} {S : World → Prop} {op : Oper} {a : Act} (hw : Region.wanted op (yielded ops a.tmps) = true) (ty : TypeId) (x : Operand) (ho : op.op = .load ty x)
    (g : Nat) (hx : a.eval x = .pointer (some ⟨g, 0, none⟩)) (t : TypeId) (cs : Array Value) (fr : Nat × Nat) (d : TypeDesc) (hS : ∀ w, S w → w.heap[g]? = some (.cells cs t fr))
    (hu : P.underlying ty = some d) (hd : (match d with | .struct _ | .array _ _ => true | _ => false) = true) (hi : (P.info? ty).map (·.size) = some cs.size) : YieldsIf P ops S op (.agg cs) a :=
  .inl ⟨hw, fun w hw' => by
    unfold execOp
    simp only [ho, hx, Instr.loadAt, Instr.sureAddr, Sem.run_bind, Sem.run_pure, Result.andThen_ok, run_loadVar_row w g t ty cs fr d (hS w hw') hu hd hi]⟩
/-- A whole row into a new box: the world behind it as a letter. -/
theorem wpList_store_new {P : Program} {ops : Array Oper} {rest : List Oper} {o : Oper} {a : Act} {W : World} {Q : Exit → Act → World → Prop} (hgd : o.guard = none) (ty : TypeId) (x y : Operand) (ho : o.op = .store ty x y)
    (cells : Array Value) (t : TypeId) (old : Array Value) (hx : a.eval x = .pointer (some ⟨W.heap.size, 0, none⟩)) (hy : a.eval y = .agg cells)
    (hi : (P.info? ty).map (·.size) = some cells.size) (hold : old.size = cells.size) (h1 : cells.all (·.oneCell') = true)
    (h : ∀ V : World, V.heap[W.heap.size]? = some (.cells cells t (0, 0)) → Below W.heap.size W V → wpList P ops Q rest (a.put o.dst undef) V) : wpList P ops Q (o :: rest) a (W.alloc (.cells old t (0, 0))) :=
  wpList_store_row hgd ty x y ho W.heap.size cells hx hy t old (heap_alloc_new _ _) hi hold h1 (h _ (setRow_heap _ _ _ _ _ _ (heap_alloc_new _ _)) (below_row ((Below.refl _ _).alloc (Nat.le_refl _) _) (Nat.le_refl _) _))
theorem ones7 (p : Ac) : (#[.int .i64 p.seq, .bool p.st, .bool p.kn, .int .u32 p.pl, .int .i64 p.many, .int .u32 p.data, .bool p.done] : Array Value).all (·.oneCell') = true := by simp [Value.oneCell']
/-- One in a box of its own. -/
def Box (w : World) (b : Nat) (p : Ac) : Prop := w.heap[b]? = some (.cells #[.int .i64 p.seq, .bool p.st, .bool p.kn, .int .u32 p.pl, .int .i64 p.many, .int .u32 p.data, .bool p.done] 76 (0, 0))
theorem Box.below {w w' : World} {b B : Nat} {p : Ac} (h : Box w b p) (hB : w.heap.size ≤ B) (hb : Below B w w') : Box w' b p := (hb.block b (Nat.lt_of_lt_of_le (heap_lt h) hB)).trans h
theorem Box.cell {w : World} {b : Nat} {p : Ac} (h : Box w b p) {j : Nat} {u : Value} (hj : (cel p)[j]? = some u) : w.cell? ⟨b, j, none⟩ = some u := (cell_of_row _ _ _ _ _ _ h).trans (by simpa [cel] using hj)
set_option maxRecDepth 20000 in
theorem uwidth_any (p : Ac) (w : World) : Calls Try.prog 91 #[acv p] w fun e w' => e = .returned (.int .u64 (wd p)) ∧ Below w.heap.size w w' := by
  obtain ⟨s, t, k, x, m, d, o⟩ := p
  rcases (by omega : m < 0 ∨ (0 ≤ m ∧ m ≤ 4) ∨ 4 < m) with h | h | h
  · have HV : Hid (wd ⟨s, t, k, x, m, d, o⟩ = 0) := by show wd _ = _; simp [wd, h]
    go_enter Try.func91, Try.ntmps91
    go_wp2
    go_ret
    exact ⟨ret_int HV.out.symm, (Below.refl _ _).alloc (Nat.le_refl _) _⟩
  · have HV : Hid (wd ⟨s, t, k, x, m, d, o⟩ = m) := by show wd _ = _; simp [wd]; omega
    go_enter Try.func91, Try.ntmps91
    go_wp2
    go_ret
    exact ⟨ret_int HV.out.symm, (Below.refl _ _).alloc (Nat.le_refl _) _⟩
  · have HV : Hid (wd ⟨s, t, k, x, m, d, o⟩ = 4) := by show wd _ = _; simp [wd]; omega
    go_enter Try.func91, Try.ntmps91
    go_wp2
    go_ret
    exact ⟨ret_int HV.out.symm, (Below.refl _ _).alloc (Nat.le_refl _) _⟩
set_option maxRecDepth 20000 in
theorem uahead_any (p : Ac) (seq : Int) (w : World) : Calls Try.prog 74 #[acv p, .int .i64 seq] w fun e w' => e = .returned (.bool (ahd seq p)) ∧ Below w.heap.size w w' := by
  obtain ⟨s, t, k, x, m, d, o⟩ := p
  go_enter Try.func74, Try.ntmps74
  go_wp2
  all_goals (go_ret; refine ⟨?_, (Below.refl _ _).alloc (Nat.le_refl _) _⟩; simp_all [ahd])
set_option maxRecDepth 20000 in
theorem uover_any (p : Ac) (seq : Int) (w : World) : Calls Try.prog 78 #[acv p, .int .i64 seq] w fun e w' => e = .returned (.bool (ovr seq p)) ∧ Below w.heap.size w w' := by
  obtain ⟨s, t, k, x, m, d, o⟩ := p
  go_enter Try.func78, Try.ntmps78
  go_wp2
  all_goals (go_ret; refine ⟨?_, (Below.refl _ _).alloc (Nat.le_refl _) _⟩; simp_all [ovr])
/-- The load that asks for so many bytes. -/
def ldo (many : Int) : Int := if many = 1 then 14 else if many = 2 then 15 else if many = 4 then 13 else 0
theorem uload_any (many : Int) (w : World) : Calls Try.prog 70 #[.int .i64 many] w fun e w' => e = .returned (.int .i64 (ldo many)) ∧ w' = w := by
  go_enter Try.func70, Try.ntmps70
  go_wp2
  all_goals (go_ret; refine ⟨?_, rfl⟩; simp_all [ldo])
set_option maxRecDepth 20000 in
theorem uhas_any (p : Ac) (ho : p.Ok) (x : Int) (x0 : 0 ≤ x) (x1 : x ≤ 18446744073709551615) (w : World) : Calls Try.prog 88 #[acv p, .int .u64 x] w fun e w' => e = .returned (.bool (hs p x)) ∧ Below w.heap.size w w' := by
  have C := fun w => uwidth_any p w
  have hr := wd_rng p
  obtain ⟨D, hD⟩ : ∃ D, D = wd p := ⟨_, rfl⟩
  have HV : Hid (hs p x = decide (p.pl ≤ x ∧ x < p.pl + D)) := by rw [hD]; rfl
  rw [← hD] at C hr
  clear hD
  obtain ⟨h1, h2, _, _, _, _⟩ := ho
  obtain ⟨s, t, k, y, m, d, o⟩ := p
  simp only at h1 h2 HV
  by_cases hle : y ≤ x
  · go_enter Try.func88, Try.ntmps88
    go_wp2_with fail
    refine (C _).mono ?_
    rintro e w' ⟨rfl, hb⟩
    have HB : Hid (Below w.heap.size w w') := ((Below.refl _ w).alloc (Nat.le_refl _) _).trans (hb.mono (by simp))
    clear C hb
    go_wp2_with fail
    go_ret
    exact ⟨by rw [HV.out]; simp [hle], HB.out⟩
  · go_enter Try.func88, Try.ntmps88
    go_wp2_with fail
    go_ret
    exact ⟨by rw [HV.out]; simp; omega, (Below.refl _ _).alloc (Nat.le_refl _) _⟩
set_option maxRecDepth 20000 in
theorem yHas_any (p : Ac) (ho : p.Ok) (x : Int) (x0 : 0 ≤ x) (x1 : x ≤ 4294967295) (w : World) : Calls Try.prog 89 #[acv p, .int .i64 x] w fun e w' => e = .returned (.bool (hs p x)) ∧ Below w.heap.size w w' := by
  obtain ⟨h1, h2, _, _, h3, h4⟩ := ho
  obtain ⟨s, t, k, y, m, d, o⟩ := p
  have HV : Hid (hs ⟨s, t, k, y, m, d, o⟩ x = decide (y ≤ x ∧ x < y + (if 4 < m then 4 else m))) := by
    show decide (_ ∧ _) = _
    simp only [wd]
    congr 1
    apply propext
    constructor
    · intro h; split at h
      · omega
      · exact h
    · intro h; split
      · split at h <;> omega
      · exact h
  simp only at h1 h2 h3 h4
  by_cases hm : 4 < m
  · rw [if_pos hm] at HV
    go_enter Try.func89, Try.ntmps89
    go_wp2
    all_goals (go_ret; refine ⟨?_, (Below.refl _ _).alloc (Nat.le_refl _) _⟩; rw [HV.out]; simp_all <;> omega)
  · rw [if_neg hm] at HV
    go_enter Try.func89, Try.ntmps89
    go_wp2
    all_goals (go_ret; refine ⟨?_, (Below.refl _ _).alloc (Nat.le_refl _) _⟩; rw [HV.out]; simp_all <;> omega)
end Go.Proofs.Ytpiohehijkpghab
