/- A window as a law's argument. -/
import Derived.Test.YtfhckpeenkaiiabWinB
import Derived.OpenShut
import Derived.SizedLaws
import Derived.ChangeSlices
import Derived.Deep.SlicePairs
namespace Go.Proofs.Ytfhckpeenkaiiab
open Go.ChangeShapes Go.WideShapes Go.ChangeAt Go.RowKit Go.ChangeMaps
set_option linter.unusedVariables false
theorem scs_split : ∀ (l : List Sl) (j : Nat) (u : Value), (scs l)[j]? = some u → ∃ k p, l[k]? = some p ∧ ((j = k * 2 ∧ u = .int .i64 p.1) ∨ (j = k * 2 + 1 ∧ u = .bool p.2))
  | [], j, u, h => by simp [scs] at h
  | q :: l, 0, u, h => ⟨0, q, rfl, .inl ⟨rfl, by simp [scs] at h; exact h.symm⟩⟩
  | q :: l, 1, u, h => ⟨0, q, rfl, .inr ⟨rfl, by simp [scs] at h; exact h.symm⟩⟩
  | q :: l, j + 2, u, h => by
    obtain ⟨k, p, hk, hc⟩ := scs_split l j u (by simpa [scs] using h)
    refine ⟨k + 1, p, by simpa using hk, ?_⟩
    rcases hc with ⟨rfl, e⟩ | ⟨rfl, e⟩
    · exact .inl ⟨by omega, e⟩
    · exact .inr ⟨by omega, e⟩
theorem plain_of_cell' {w : World} {a : Addr} {v : Value} (h : w.cell? a = some v) : a.spot = none := by
  unfold World.cell? at h
  split at h <;> simp_all
section
variable {H : Type} {enc : TypeId × Value → H} {w : World} {base : Nat} {sp : Nat → Bool} {held : Bool} {fuel : Nat} {d : DataW H} {p : List MemPlace}
theorem slots_cells {a : Option Addr} {len cap : Nat} (h : DataW.trod enc Try.prog w base sp held fuel 57 [.slice a len cap] = some (d, p)) :
    (len = 0 ∨ ∃ xs ys, d = .slice xs ys ∧ len = xs.length) ∧ ∃ l : List Sl, LC w a len cap 2 (scs l) := by
  rcases Deep.open_slice_pairs Try.underlying57 Try.underlying67 (by kernel_rfl) rfl rfl (by kernel_rfl) (by kernel_rfl) h with ⟨hcs, _⟩ | ⟨x, l, c, m, n, V0, V1, D0, D1, P0, P1, hcs, _, hl, hm, hmm, hd, hall⟩
  · simp at hcs
    obtain ⟨rfl, rfl, rfl⟩ := hcs
    exact ⟨.inl rfl, [], lc_none _ _⟩
  · simp at hcs
    obtain ⟨rfl, rfl, rfl⟩ := hcs
    have hlm : len ≤ m := by rw [hmm]; split <;> omega
    have each : ∀ i, i < len → ∃ q : Sl, V0 i = .int .i64 q.1 ∧ V1 i = .bool q.2 := fun i hi => by
      obtain ⟨_, _, g0, g1⟩ := hall i (by omega)
      obtain ⟨z, hz, _⟩ := DataW.trod_int Try.underlying3 g0
      obtain ⟨b, hb, _⟩ := DataW.trod_bool Try.underlying4 g1
      exact ⟨(z, b), by simpa using hz, by simpa using hb⟩
    obtain ⟨f, hF⟩ := Deep.choose_lt each
    refine ⟨.inr ⟨_, _, (congrArg Prod.fst hd), by simp⟩, (List.range len).map f, ⟨by rw [scs_len]; simp, hl, hm, fun h => (nomatch h), scs_one _, fun y hy h0 => ?_⟩⟩
    obtain rfl := Option.some.inj hy
    have h00 := hall 0 (by omega)
    have hsp := plain_of_cell' h00.1
    obtain ⟨b, o, s⟩ := x
    cases s with
    | some q => simp [Addr.add] at hsp
    | none =>
      refine ⟨b, o, rfl, World.block_lt_of_cell? _ _ (show w.cell? ⟨b, o + 0 * 2, none⟩ = some _ by have := h00.1; rwa [Addr.add_lit] at this), fun j u hj => ?_⟩
      obtain ⟨k, q, hk, hc⟩ := scs_split _ _ _ hj
      have hkl : k < len := by have := (List.getElem?_eq_some_iff.1 hk).1; simpa using this
      rw [List.getElem?_map, List.getElem?_range hkl] at hk
      simp at hk
      subst hk
      obtain ⟨e0, e1⟩ := hF k hkl
      obtain ⟨g0, g1, _, _⟩ := hall k (by omega)
      rw [Addr.add_lit] at g0 g1
      rcases hc with ⟨rfl, rfl⟩ | ⟨rfl, rfl⟩
      · exact g0.trans (congrArg some e0)
      · exact g1.trans (congrArg some e1)
end
end Go.Proofs.Ytfhckpeenkaiiab
