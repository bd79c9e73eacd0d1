/- A table as a law's argument. -/
import Derived.Test.YtoajbcigenjmmabGueT
import Derived.OpenShut
import Derived.SizedLaws
namespace Go.Proofs.Ytoajbcigenjmmab
open Go.ChangeShapes Go.WideShapes Go.ChangeAt Go.RowKit
open Hy
set_option linter.unusedVariables false
section
variable {H : Type} {enc : TypeId × Value → H} {w : World} {base : Nat} {sp : Nat → Bool} {held : Bool} {fuel : Nat} {cs : List Value} {d : DataW H} {p : List MemPlace}
theorem hint_at {t : TypeId} {k : IntKind} {o : Nat} (ht : Try.prog.underlying t = some (.int k)) (h : DataW.trod enc Try.prog w base sp held fuel t ((cs.drop o).take 1) = some (d, p)) : ∃ z, cs[o]? = some (.int k z) ∧ (Lit.int k z).wf = true := by
  obtain ⟨z, hc, hx, hw⟩ := DataW.trod_int ht h
  have := congrArg (·[0]?) hc
  refine ⟨z, ?_, hw⟩
  simpa [List.getElem?_take, List.getElem?_drop] using this
theorem hstr_at {t : TypeId} {fs : Array Field} (ht : Try.prog.underlying t = some (.struct fs)) (h : DataW.trod enc Try.prog w base sp held fuel t cs = some (d, p)) (i : Nat) (f : Field) (hi : fs[i]? = some f) :
    ∃ m d' q, DataW.trod enc Try.prog w base sp held m f.type ((cs.drop f.offset).take (Try.prog.cellsOf f.type)) = some (d', q) := by
  obtain ⟨xs, m, _, hx, _, hn, hall⟩ := DataW.trod_struct ht h
  have hlt : i < fs.size := (Array.getElem?_eq_some_iff.1 hi).1
  obtain ⟨x, hxx⟩ : ∃ x, xs[i]? = some x := ⟨xs[i]'(by rw [hn]; simpa using hlt), List.getElem?_eq_getElem _⟩
  exact ⟨m, x.1, x.2, hall i f hi |>.trans (by rw [hxx])⟩
theorem harr_at {t e : TypeId} {n : Nat} (ht : Try.prog.underlying t = some (.array n e)) (h : DataW.trod enc Try.prog w base sp held fuel t cs = some (d, p)) (i : Nat) (hi : i < n) :
    ∃ m d' q, DataW.trod enc Try.prog w base sp held m e ((cs.drop (i * Try.prog.cellsOf e)).take (Try.prog.cellsOf e)) = some (d', q) := by
  obtain ⟨xs, m, _, hx, _, hn, hall⟩ := DataW.trod_array ht h
  obtain ⟨x, hxx⟩ : ∃ x, xs[i]? = some x := ⟨xs[i]'(by omega), List.getElem?_eq_getElem _⟩
  exact ⟨m, x.1, x.2, hall i hi |>.trans (by rw [hxx])⟩
theorem k22 : Try.prog.cellsOf 22 = 1 := by kernel_rfl
theorem k3 : Try.prog.cellsOf 3 = 1 := by kernel_rfl
theorem kcs : Try.prog.cellsOf 25 = 32 := by kernel_rfl
theorem kvs : Try.prog.cellsOf 28 = 32 := by kernel_rfl
theorem cut_at (cs : List Value) (o n i m j : Nat) (h1 : i + m ≤ n) (h2 : j < m) : ((((cs.drop o).take n).drop i).take m)[j]? = cs[o + i + j]? := by
  simp only [List.getElem?_take, List.getElem?_drop, h2, if_true, show i + j < n by omega]
  rw [Nat.add_assoc]
theorem fam {k : IntKind} {n : Nat} {Q : Nat → Int → Prop} (h : ∀ i, i < n → ∃ z, Q i z) : ∃ f : Nat → Int, ∀ i, i < n → Q i (f i) := by
  have key : ∀ i, ∃ z, i < n → Q i z := fun i => by
    by_cases hi : i < n
    · obtain ⟨z, hz⟩ := h i hi
      exact ⟨z, fun _ => hz⟩
    · exact ⟨0, fun h => absurd h hi⟩
  exact ⟨fun i => (key i).choose, fun i => (key i).choose_spec⟩
set_option maxRecDepth 100000 in
theorem table_cells {v : Array Value} (hsz : v.size = 64) (h : DataW.trod enc Try.prog w base sp held fuel 30 v.toList = some (d, p)) :
    ∃ t : Tb, v = tcs t ∧ TbOk t := by
  obtain ⟨m0, d0, q0, e0⟩ := hstr_at Try.underlying30 h 0 _ rfl
  obtain ⟨m1, d1, q1, e1⟩ := hstr_at Try.underlying30 h 1 _ rfl
  have e0' : DataW.trod enc Try.prog w base sp held m0 25 ((v.toList.drop 0).take 32) = some (d0, q0) := by rw [← kcs]; exact e0
  have e1' : DataW.trod enc Try.prog w base sp held m1 28 ((v.toList.drop 32).take 32) = some (d1, q1) := by rw [← kvs]; exact e1
  have hc : ∀ i, i < 16 → (∃ z, v[i * 2]? = some (.int .i64 z)) ∧ (∃ z, v[i * 2 + 1]? = some (.int .u32 z) ∧ (Lit.int .u32 z).wf = true) := fun i hi => by
    obtain ⟨m, d', q, e⟩ := harr_at Try.underlying25 e0' i hi
    rw [eq.kc] at e
    obtain ⟨n0, f0, g0, x0⟩ := hstr_at Try.underlying24 e 0 _ rfl
    obtain ⟨n1, f1, g1, x1⟩ := hstr_at Try.underlying24 e 1 _ rfl
    obtain ⟨z0, c0, _⟩ := hint_at (o := 0) Try.underlying3 (by rw [← k3]; exact x0)
    obtain ⟨z1, c1, w1⟩ := hint_at (o := 1) Try.underlying22 (by rw [← k22]; exact x1)
    rw [cut_at _ _ _ _ _ _ (by omega) (by omega)] at c0 c1
    simp only [Nat.zero_add, Nat.add_zero, Array.getElem?_toList] at c0 c1
    exact ⟨⟨z0, c0⟩, ⟨z1, c1, w1⟩⟩
  have hv : ∀ i, i < 8 → (∃ z, v[32 + i * 4]? = some (.int .u32 z) ∧ (Lit.int .u32 z).wf = true) ∧ (∃ z, v[32 + i * 4 + 1]? = some (.int .u32 z) ∧ (Lit.int .u32 z).wf = true) ∧ (∃ z, v[32 + i * 4 + 2]? = some (.int .u32 z) ∧ (Lit.int .u32 z).wf = true) ∧ (∃ z, v[32 + i * 4 + 3]? = some (.int .i64 z)) := fun i hi => by
    obtain ⟨m, d', q, e⟩ := harr_at Try.underlying28 e1' i hi
    rw [eq.kv] at e
    obtain ⟨n0, f0, g0, x0⟩ := hstr_at Try.underlying27 e 0 _ rfl
    obtain ⟨n1, f1, g1, x1⟩ := hstr_at Try.underlying27 e 1 _ rfl
    obtain ⟨n2, f2, g2, x2⟩ := hstr_at Try.underlying27 e 2 _ rfl
    obtain ⟨n3, f3, g3, x3⟩ := hstr_at Try.underlying27 e 3 _ rfl
    obtain ⟨z0, c0, w0⟩ := hint_at (o := 0) Try.underlying22 (by rw [← k22]; exact x0)
    obtain ⟨z1, c1, w1⟩ := hint_at (o := 1) Try.underlying22 (by rw [← k22]; exact x1)
    obtain ⟨z2, c2, w2⟩ := hint_at (o := 2) Try.underlying22 (by rw [← k22]; exact x2)
    obtain ⟨z3, c3, _⟩ := hint_at (o := 3) Try.underlying3 (by rw [← k3]; exact x3)
    rw [cut_at _ _ _ _ _ _ (by omega) (by omega)] at c0 c1 c2 c3
    simp only [Nat.add_zero, Array.getElem?_toList] at c0 c1 c2 c3
    exact ⟨⟨z0, c0, w0⟩, ⟨z1, c1, w1⟩, ⟨z2, c2, w2⟩, ⟨z3, c3⟩⟩
  obtain ⟨L, hL⟩ := fam (k := .i64) (fun i hi => (hc i hi).1)
  obtain ⟨G, hG⟩ := fam (k := .i64) (fun i hi => (hc i hi).2)
  obtain ⟨P, hP⟩ := fam (k := .i64) (fun i hi => (hv i hi).1)
  obtain ⟨A, hA⟩ := fam (k := .i64) (fun i hi => (hv i hi).2.1)
  obtain ⟨S, hS⟩ := fam (k := .i64) (fun i hi => (hv i hi).2.2.1)
  obtain ⟨U, hU⟩ := fam (k := .i64) (fun i hi => (hv i hi).2.2.2)
  refine ⟨⟨L, G, P, A, S, U⟩, ?_, ⟨fun i hi => bounds_u32 (hG i hi).2, fun i hi => bounds_u32 (hP i hi).2, fun i hi => bounds_u32 (hA i hi).2, fun i hi => bounds_u32 (hS i hi).2⟩⟩
  apply Array.ext_getElem?
  intro i
  by_cases h1 : i < 32
  · have hi : i / 2 < 16 := by omega
    rcases (by omega : i = i / 2 * 2 ∨ i = i / 2 * 2 + 1) with e | e
    · rw [e, hL _ hi, tcs_L _ _ hi]
    · rw [e, (hG _ hi).1, tcs_G _ _ hi]
  · by_cases h2 : i < 64
    · have hi : (i - 32) / 4 < 8 := by omega
      rcases (by omega : i = 32 + (i - 32) / 4 * 4 ∨ i = 32 + (i - 32) / 4 * 4 + 1 ∨ i = 32 + (i - 32) / 4 * 4 + 2 ∨ i = 32 + (i - 32) / 4 * 4 + 3) with e | e | e | e
      · rw [e, (hP _ hi).1, tcs_P _ _ hi]
      · rw [e, (hA _ hi).1, tcs_A _ _ hi]
      · rw [e, (hS _ hi).1, tcs_S _ _ hi]
      · rw [e, hU _ hi, tcs_U _ _ hi]
    · rw [Array.getElem?_eq_none (by omega), Array.getElem?_eq_none (by rw [tcs_size]; omega)]
end
end Go.Proofs.Ytoajbcigenjmmab
