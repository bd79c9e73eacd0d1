/- Windows whose numbers rise: plain mathematics. -/
import Derived.Test.YtfhckpeenkaiiabWinA
namespace Go.Proofs.Ytfhckpeenkaiiab
open Go.RowKit
set_option linter.unusedVariables false
/-- The numbers rise, above what went last, and below the next one. -/
structure Ord (l : List Sl) (seq last : Int) : Prop where
  inc : (l.map (·.1)).Pairwise (· < ·)
  lo : ∀ q ∈ l, last < q.1
  hi : ∀ q ∈ l, q.1 < seq
  lt : last < seq
theorem ord_nil : Ord [] 0 (-1) := ⟨List.Pairwise.nil, fun q h => by simp at h, fun q h => by simp at h, by omega⟩
theorem Ord.push {l : List Sl} {seq last : Int} (h : Ord l seq last) : Ord (l ++ [(seq, false)]) (seq + 1) last := by
  refine ⟨?_, fun q hq => ?_, fun q hq => ?_, by have := h.lt; omega⟩
  · rw [List.map_append, List.pairwise_append]
    refine ⟨h.inc, by simp, fun a ha b hb => ?_⟩
    obtain ⟨q, hq, rfl⟩ := List.mem_map.1 ha
    simp at hb
    subst hb
    exact h.hi q hq
  · rcases List.mem_append.1 hq with hq | hq
    · exact h.lo q hq
    · simp at hq; subst hq; exact h.lt
  · rcases List.mem_append.1 hq with hq | hq
    · have := h.hi q hq; omega
    · simp at hq; subst hq; show seq < seq + 1; omega
theorem set_map (l : List Sl) (m : Nat) (s : Int) (b : Bool) (h : (l[m]?).map (·.1) = some s) : (l.set m (s, b)).map (·.1) = l.map (·.1) := by
  rw [List.map_set]
  apply List.ext_getElem?
  intro j
  rw [List.getElem?_set]
  split
  · rename_i e; subst e
    split
    · rw [List.getElem?_map, h]
    · rename_i hlt
      rw [List.getElem?_eq_none (by omega)]
  · rfl
theorem Ord.of_map {l l' : List Sl} {seq last : Int} (h : Ord l seq last) (e : l'.map (·.1) = l.map (·.1)) : Ord l' seq last := by
  refine ⟨by rw [e]; exact h.inc, fun q hq => ?_, fun q hq => ?_, h.lt⟩
  · have : q.1 ∈ l.map (·.1) := by rw [← e]; exact List.mem_map.2 ⟨q, hq, rfl⟩
    obtain ⟨q', hq', e'⟩ := List.mem_map.1 this
    rw [← e']; exact h.lo q' hq'
  · have : q.1 ∈ l.map (·.1) := by rw [← e]; exact List.mem_map.2 ⟨q, hq, rfl⟩
    obtain ⟨q', hq', e'⟩ := List.mem_map.1 this
    rw [← e']; exact h.hi q' hq'
theorem Ord.sub {l l' : List Sl} {seq last : Int} (h : Ord l seq last) (e : l'.Sublist l) : Ord l' seq last :=
  ⟨h.inc.sublist (e.map _), fun q hq => h.lo q (e.subset hq), fun q hq => h.hi q (e.subset hq), h.lt⟩
theorem Ord.tail {p : Sl} {l : List Sl} {seq last : Int} (h : Ord (p :: l) seq last) : Ord l seq p.1 := by
  have hi := h.inc
  rw [List.map_cons, List.pairwise_cons] at hi
  exact ⟨hi.2, fun q hq => hi.1 _ (List.mem_map.2 ⟨q, hq, rfl⟩), fun q hq => h.hi q (List.mem_cons_of_mem _ hq), h.hi p (List.mem_cons_self ..)⟩
theorem Ord.next {l : List Sl} {seq last : Int} (h : Ord l seq last) {k : Nat} {p q : Sl} (hp : l[k]? = some p) (hq : l[k + 1]? = some q) : p.1 < q.1 := by
  have hi := List.pairwise_iff_getElem.1 h.inc k (k + 1)
  obtain ⟨h1, rfl⟩ := List.getElem?_eq_some_iff.1 hp
  obtain ⟨h2, rfl⟩ := List.getElem?_eq_some_iff.1 hq
  have := hi (by simpa using h1) (by simpa using h2) (by omega)
  simpa using this
theorem Ord.at' {l : List Sl} {seq last : Int} (h : Ord l seq last) {k : Nat} {p : Sl} (hp : l[k]? = some p) : last < p.1 ∧ p.1 < seq := by
  have hm := List.mem_of_getElem? hp
  exact ⟨h.lo _ hm, h.hi _ hm⟩
/-- What is cut off, the last one first. -/
def cutS (l : List Sl) (seq : Int) : List Int := ((l.filter fun q => decide (seq ≤ q.1)).map (·.1)).reverse
/-- What stays. -/
def stayS (l : List Sl) (seq : Int) : List Sl := l.filter fun q => !decide (seq ≤ q.1)
theorem cut_len (l : List Sl) (seq : Int) : (stayS l seq).length + (cutS l seq).length = l.length := by
  unfold stayS cutS
  rw [List.length_reverse, List.length_map]
  induction l with
  | nil => rfl
  | cons q l ih =>
    rw [List.filter_cons, List.filter_cons]
    by_cases h : seq ≤ q.1
    · simp [h] at ih ⊢; omega
    · simp [h] at ih ⊢; omega
theorem cut_low {l : List Sl} {seq : Int} {k : Nat} {x : Int} (h : (cutS l seq)[k]? = some x) : seq ≤ x := by
  have hm := List.mem_of_getElem? h
  unfold cutS at hm
  rw [List.mem_reverse] at hm
  obtain ⟨q, hq, rfl⟩ := List.mem_map.1 hm
  simpa using (List.mem_filter.1 hq).2
theorem Ord.cut {l : List Sl} {seq last : Int} (h : Ord l seq last) (s : Int) {k : Nat} {x y : Int} (hx : (cutS l s)[k]? = some x) (hy : (cutS l s)[k + 1]? = some y) : y < x := by
  have hs : ((l.filter fun q => decide (s ≤ q.1)).map (·.1)).Pairwise (· < ·) := h.inc.sublist (List.filter_sublist.map _)
  have hr : (cutS l s).Pairwise (fun a b => b < a) := by unfold cutS; rw [List.pairwise_reverse]; exact hs
  obtain ⟨h1, rfl⟩ := List.getElem?_eq_some_iff.1 hx
  obtain ⟨h2, rfl⟩ := List.getElem?_eq_some_iff.1 hy
  exact List.pairwise_iff_getElem.1 hr k (k + 1) h1 h2 (by omega)
theorem Ord.stay {l : List Sl} {seq last : Int} (h : Ord l seq last) (s : Int) : Ord (stayS l s) seq last := h.sub List.filter_sublist
end Go.Proofs.Ytfhckpeenkaiiab
