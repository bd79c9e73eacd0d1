/- Harts and bytes as a law's arguments; the two tables out of the row's list. -/
import Derived.Test.YtpiohehijkpghaaDoorHartB
import Derived.Test.YtpiohehijkpghaaDoorHartN
import Derived.Test.YtpiohehijkpghaaDoorDecT
import Derived.OpenShut
import Derived.SizedLaws
namespace Go.Proofs.YtpiohehijkpghaaDoor
open Go.ChangeShapes Go.WideShapes Go.ChangeAt Go.RowKit
open Hy
set_option linter.unusedVariables false

section
variable {H : Type} {enc : TypeId × Value → H} {w : World} {base : Nat} {sp : Nat → Bool} {held : Bool} {fuel : Nat} {cs : List Value} {d : DataW H} {p : List MemPlace}

theorem hint_at {t : TypeId} {k : IntKind} {o : Nat} (ht : Tryd.prog.underlying t = some (.int k)) (h : DataW.trod enc Tryd.prog w base sp held fuel t ((cs.drop o).take 1) = some (d, p)) : ∃ z, cs[o]? = some (.int k z) ∧ (Lit.int k z).wf = true := by
  obtain ⟨z, hc, hx, hw⟩ := DataW.trod_int ht h
  have := congrArg (·[0]?) hc
  refine ⟨z, ?_, hw⟩
  simpa [List.getElem?_take, List.getElem?_drop] using this

theorem hstr_at {t : TypeId} {fs : Array Field} (ht : Tryd.prog.underlying t = some (.struct fs)) (h : DataW.trod enc Tryd.prog w base sp held fuel t cs = some (d, p)) (i : Nat) (f : Field) (hi : fs[i]? = some f) :
    ∃ m d' q, DataW.trod enc Tryd.prog w base sp held m f.type ((cs.drop f.offset).take (Tryd.prog.cellsOf f.type)) = some (d', q) := by
  obtain ⟨xs, m, _, hx, _, hn, hall⟩ := DataW.trod_struct ht h
  have hlt : i < fs.size := (Array.getElem?_eq_some_iff.1 hi).1
  obtain ⟨x, hxx⟩ : ∃ x, xs[i]? = some x := ⟨xs[i]'(by rw [hn]; simpa using hlt), List.getElem?_eq_getElem _⟩
  exact ⟨m, x.1, x.2, hall i f hi |>.trans (by rw [hxx])⟩

theorem harr_at {t e : TypeId} {n : Nat} (ht : Tryd.prog.underlying t = some (.array n e)) (h : DataW.trod enc Tryd.prog w base sp held fuel t cs = some (d, p)) (i : Nat) (hi : i < n) :
    ∃ m d' q, DataW.trod enc Tryd.prog w base sp held m e ((cs.drop (i * Tryd.prog.cellsOf e)).take (Tryd.prog.cellsOf e)) = some (d', q) := by
  obtain ⟨xs, m, _, hx, _, hn, hall⟩ := DataW.trod_array ht h
  obtain ⟨x, hxx⟩ : ∃ x, xs[i]? = some x := ⟨xs[i]'(by omega), List.getElem?_eq_getElem _⟩
  exact ⟨m, x.1, x.2, hall i hi |>.trans (by rw [hxx])⟩

theorem k22 : Tryd.prog.cellsOf 22 = 1 := by kernel_rfl
theorem k3 : Tryd.prog.cellsOf 3 = 1 := by kernel_rfl
theorem k32 : Tryd.prog.cellsOf 32 = 32 := by kernel_rfl

set_option maxRecDepth 100000 in
theorem hart_cells {v : Array Value} (hsz : v.size = 35) (h : DataW.trod enc Tryd.prog w base sp held fuel 34 v.toList = some (d, p)) :
    ∃ (R : Nat → Int) (pc st ca : Int), v = hcs R pc st ca ∧ (∀ i, i < 32 → 0 ≤ R i ∧ R i ≤ 4294967295) ∧ 0 ≤ pc ∧ pc ≤ 4294967295 := by
  obtain ⟨m0, d0, q0, e0⟩ := hstr_at Tryd.underlying34 h 0 _ rfl
  obtain ⟨m1, d1, q1, e1⟩ := hstr_at Tryd.underlying34 h 1 _ rfl
  obtain ⟨m2, d2, q2, e2⟩ := hstr_at Tryd.underlying34 h 2 _ rfl
  obtain ⟨m3, d3, q3, e3⟩ := hstr_at Tryd.underlying34 h 3 _ rfl
  have e0' : DataW.trod enc Tryd.prog w base sp held m0 32 ((v.toList.drop 0).take 32) = some (d0, q0) := by rw [← k32]; exact e0
  have e1' : DataW.trod enc Tryd.prog w base sp held m1 22 ((v.toList.drop 32).take 1) = some (d1, q1) := by rw [← k22]; exact e1
  have e2' : DataW.trod enc Tryd.prog w base sp held m2 3 ((v.toList.drop 33).take 1) = some (d2, q2) := by rw [← k3]; exact e2
  have e3' : DataW.trod enc Tryd.prog w base sp held m3 3 ((v.toList.drop 34).take 1) = some (d3, q3) := by rw [← k3]; exact e3
  obtain ⟨pc, c1, w1⟩ := hint_at Tryd.underlying22 e1'
  obtain ⟨st, c2, _⟩ := hint_at Tryd.underlying3 e2'
  obtain ⟨ca, c3, _⟩ := hint_at Tryd.underlying3 e3'
  have hr : ∀ i, i < 32 → ∃ z, v[i]? = some (.int .u32 z) ∧ (Lit.int .u32 z).wf = true := fun i hi => by
    obtain ⟨m, d', q, e⟩ := harr_at Tryd.underlying32 e0' i hi
    rw [k22, Nat.mul_one] at e
    obtain ⟨z, hz, hw⟩ := hint_at Tryd.underlying22 e
    refine ⟨z, ?_, hw⟩
    rw [← hz]
    simp [hi]
  have key : ∀ i, ∃ z, i < 32 → v[i]? = some (.int .u32 z) ∧ (Lit.int .u32 z).wf = true := fun i => by
    by_cases hi : i < 32
    · obtain ⟨z, hz⟩ := hr i hi
      exact ⟨z, fun _ => hz⟩
    · exact ⟨0, fun h => absurd h hi⟩
  obtain ⟨R, hR⟩ : ∃ R : Nat → Int, ∀ i, i < 32 → v[i]? = some (.int .u32 (R i)) ∧ (Lit.int .u32 (R i)).wf = true := ⟨fun i => (key i).choose, fun i => (key i).choose_spec⟩
  refine ⟨R, pc, st, ca, ?_, fun i hi => bounds_u32 (hR i hi).2, (bounds_u32 w1).1, (bounds_u32 w1).2⟩
  apply Array.ext_getElem?
  intro i
  by_cases hi : i < 32
  · rw [(hR i hi).1, hcs_reg R pc st ca i hi]
  · by_cases h2 : i < 35
    · rcases (by omega : i = 32 ∨ i = 33 ∨ i = 34) with rfl | rfl | rfl
      · have : v[32]? = some (.int .u32 pc) := by simpa using c1
        rw [this]; rfl
      · have : v[33]? = some (.int .i64 st) := by simpa using c2
        rw [this]; rfl
      · have : v[34]? = some (.int .i64 ca) := by simpa using c3
        rw [this]; rfl
    · rw [Array.getElem?_eq_none (by omega), Array.getElem?_eq_none (by rw [hcs_size]; omega)]
end

abbrev imm0 : DataW Unit := Rows.laid_humpyard_hart_immediate
theorem gImmG : Tryd.prog.globalNamed "humpyard/hart.immediate" = some 1 := by kernel_rfl
theorem gImmT : (Tryd.prog.globals[1]?).map (·.type) = some 120 := by kernel_rfl
theorem imm_val : ∀ i, i < 49 → dInt (dAt imm0 i) = itab.getD i 0 := by decide

theorem tabs_of_laid {W : World} (h : laidMet Tryd.prog [("humpyard/decode.forms", forms0), ("humpyard/hart.immediate", imm0)] W) : Tab W ∧ Tab2 W := by
  obtain ⟨ps, ⟨g, t, cs, fuel, p, q, hg, ht, hvar, hd, hrest, hps⟩, hnd, hcell⟩ := h
  constructor
  · refine tab_of_laid ⟨MemPlace.row ⟨g, 0, none⟩ cs.size ++ p ++ [], ⟨g, t, cs, fuel, p, [], hg, ht, hvar, hd, rfl, rfl⟩, ?_, fun b off hb => hcell b off ?_⟩
    · rw [hps] at hnd
      rw [List.append_nil]
      exact (List.nodup_append.1 hnd).1
    · rw [hps]
      rw [List.append_nil] at hb
      exact List.mem_append_left _ hb
  · obtain ⟨g2, t2, cs2, fuel2, p2, q2, hg2, ht2, hvar2, hd2, _, _⟩ := hrest
    obtain rfl := Option.some.inj (gImmG.symm.trans hg2)
    obtain rfl := Option.some.inj (gImmT.symm.trans ht2)
    intro i hi
    rw [World.var?_cell gImmG hvar2 i]
    obtain ⟨m, q, h1⟩ := arr_at Tryd.underlying120 hd2 i hi
    rw [k3, Nat.mul_one] at h1
    obtain ⟨z, hc, hx, _⟩ := DataW.trod_int Tryd.underlying3 h1
    have hz : dInt (dAt imm0 i) = z := by
      have := congrArg Prod.fst hx
      simp only at this
      rw [this]; rfl
    have := congrArg (·[0]?) hc
    rw [← imm_val i hi, hz]
    simpa [List.getElem?_take, List.getElem?_drop] using this
end Go.Proofs.YtpiohehijkpghaaDoor
