/- A map as a law's argument. -/
import Derived.Test.YtpiohehijkpghabRenW
import Derived.OpenShut
import Derived.SizedLaws
import Derived.ChangeSlices
namespace Go.Proofs.Ytpiohehijkpghab
open Go.ChangeShapes Go.WideShapes Go.ChangeAt Go.RowKit Go.ChangeMaps
open Hy
set_option linter.unusedVariables false
section
variable {H : Type} {enc : TypeId × Value → H} {w : World} {base : Nat} {sp : Nat → Bool} {held : Bool} {fuel : Nat} {cs : List Value} {d : DataW H} {p : List MemPlace}
theorem hint_at {t : TypeId} {k : IntKind} {o : Nat} (ht : Try.prog.underlying t = some (.int k)) (h : DataW.trod enc Try.prog w base sp held fuel t ((cs.drop o).take 1) = some (d, p)) : ∃ z, cs[o]? = some (.int k z) ∧ (Lit.int k z).wf = true := by
  obtain ⟨z, hc, hx, hw⟩ := DataW.trod_int ht h
  have := congrArg (·[0]?) hc
  refine ⟨z, ?_, hw⟩
  simpa [List.getElem?_take, List.getElem?_drop] using this
theorem harr_at {t e : TypeId} {n : Nat} (ht : Try.prog.underlying t = some (.array n e)) (h : DataW.trod enc Try.prog w base sp held fuel t cs = some (d, p)) (i : Nat) (hi : i < n) :
    ∃ m d' q, DataW.trod enc Try.prog w base sp held m e ((cs.drop (i * Try.prog.cellsOf e)).take (Try.prog.cellsOf e)) = some (d', q) := by
  obtain ⟨xs, m, _, hx, _, hn, hall⟩ := DataW.trod_array ht h
  obtain ⟨x, hxx⟩ : ∃ x, xs[i]? = some x := ⟨xs[i]'(by omega), List.getElem?_eq_getElem _⟩
  exact ⟨m, x.1, x.2, hall i hi |>.trans (by rw [hxx])⟩
theorem kR : Try.prog.cellsOf 39 = 32 := by kernel_rfl
theorem kF : Try.prog.cellsOf 40 = 1 := by kernel_rfl
theorem fam {n : Nat} {Q : Nat → Int → Prop} (h : ∀ i, i < n → ∃ z, Q i z) : ∃ f : Nat → Int, ∀ i, i < n → Q i (f i) := by
  have key : ∀ i, ∃ z, i < n → Q i z := fun i => by
    by_cases hi : i < n
    · obtain ⟨z, hz⟩ := h i hi
      exact ⟨z, fun _ => hz⟩
    · exact ⟨0, fun h => absurd h hi⟩
  exact ⟨fun i => (key i).choose, fun i => (key i).choose_spec⟩
theorem plain_of_cell {w : World} {a : Addr} {v : Value} (h : w.cell? a = some v) : a.spot = none := by
  unfold World.cell? at h
  split at h <;> simp_all
set_option maxRecDepth 100000 in
theorem map_cells {v : Array Value} (hsz : v.size = 34) (h : DataW.trod enc Try.prog w base sp held fuel 42 v.toList = some (d, p)) (hw : ∀ x ∈ d.weights Try.prog 42, x ≤ reachBytes) :
    ∃ P r a n c f, Mp v P r a n c ∧ Lie w a n c f := by
  obtain ⟨xs, m, _, hx, _, hn, hall⟩ := DataW.trod_struct Try.underlying42 h
  have hn3 : xs.length = 3 := hn
  obtain ⟨x0, x1, x2, rfl⟩ : ∃ x0 x1 x2, xs = [x0, x1, x2] := by
    match xs, hn3 with
    | [a, b, c], _ => exact ⟨a, b, c, rfl⟩
  have e0 : DataW.trod enc Try.prog w base sp held m 3 ((v.toList.drop 0).take 1) = some x0 := by rw [← k3]; exact hall 0 _ rfl
  have e1 : DataW.trod enc Try.prog w base sp held m 39 ((v.toList.drop 1).take 32) = some x1 := by rw [← kR]; exact hall 1 _ rfl
  have e2 : DataW.trod enc Try.prog w base sp held m 40 ((v.toList.drop 33).take 1) = some x2 := by rw [← kF]; exact hall 2 _ rfl
  simp only [List.map_cons, List.map_nil, Prod.mk.injEq] at hx
  obtain ⟨rfl, _⟩ := hx
  obtain ⟨P, hP, _⟩ := hint_at Try.underlying3 e0
  have hreg : ∀ i, i < 32 → ∃ z, v[1 + i]? = some (.int .i64 z) ∧ (Lit.int .i64 z).wf = true := fun i hi => by
    obtain ⟨m', d', q', e⟩ := harr_at Try.underlying39 e1 i hi
    rw [k3] at e
    obtain ⟨z, c, w0⟩ := hint_at Try.underlying3 e
    refine ⟨z, ?_, w0⟩
    rw [List.getElem?_take, if_pos (by omega), List.getElem?_drop, Nat.mul_one] at c
    simpa using c
  obtain ⟨r, hr⟩ := fam hreg
  have hwt : ∀ x ∈ x2.1.weights Try.prog 40, x ≤ reachBytes := fun x hx => hw x (by
    unfold DataW.weights
    rw [Try.underlying42]
    exact DataW.weights_mem_each (j := 2) (t := 40) rfl rfl x hx)
  have fin : ∀ a n c, v[33]? = some (.slice a n c) → v = mcs P r (.slice a n c) := fun a n c hv => by
    apply Array.ext_getElem?
    intro i
    by_cases h0 : i = 0
    · subst h0
      rw [show v[0]? = v.toList[0]? by simp, hP]
      rfl
    · by_cases h1 : i < 33
      · rw [show i = 1 + (i - 1) by omega, (hr (i - 1) (by omega)).1, mcs_R _ _ _ _ (by omega)]
      · by_cases h2 : i = 33
        · subst h2; rw [hv]; rfl
        · rw [Array.getElem?_eq_none (by omega), Array.getElem?_eq_none (by rw [mcs_size]; omega)]
  have at33 : ∀ u, (v.toList.drop 33).take 1 = [u] → v[33]? = some u := fun u hu => by
    have := congrArg (·[0]?) hu
    simpa [List.getElem?_take, List.getElem?_drop] using this
  rcases open_ints Try.underlying40 Try.underlying3 (by kernel_rfl) e2 with ⟨hcs, _⟩ | ⟨a, l, c, zs, hcs, _, hl, hm, hz, hd, hcell, hwz⟩
  · exact ⟨P, r, none, 0, 0, fun _ => 0, ⟨fin _ _ _ (at33 _ hcs), fun k hk => (hr k hk).2, by omega⟩, lie_none _ _⟩
  · have hreach := hwt ((zs.take l).length * 8 + (zs.drop l).length * 8) (by
      rw [hd]
      simp only [DataW.weights, Try.underlying40]
      rw [show Try.prog.bytesOf 3 = 8 by kernel_rfl, ← Nat.add_mul]
      simp [lits])
    have hlz : l ≤ zs.length := by rw [hz]; split <;> omega
    simp only [List.length_take, List.length_drop, reachBytes] at hreach
    refine ⟨P, r, some a, l, c, fun i => zs.getD i 0, ⟨fin _ _ _ (at33 _ hcs), fun k hk => (hr k hk).2, by omega⟩, ⟨hl, hm, fun h => (nomatch h), fun i hi => ?_, fun x hx h0 => ?_⟩⟩
    · rw [List.getD_eq_getElem?_getD, List.getElem?_eq_getElem (by omega)]
      exact hwz _ (List.getElem_mem _)
    · obtain rfl := Option.some.inj hx
      have hsp := plain_of_cell (hcell 0 (by omega))
      obtain ⟨b, o, s⟩ := a
      cases s with
      | some q => simp [Addr.add] at hsp
      | none => exact ⟨b, o, rfl, fun i hi => by have := hcell i (by omega); rwa [Addr.add_lit] at this⟩
end
end Go.Proofs.Ytpiohehijkpghab
