/- Commits in a row, told by a family of cells; where a run stops. -/
import Derived.Test.YtpiohehijkpghaaDoorHartN
import Derived.Test.YtpiohehijkpghaaDoorHartM
import Derived.Deep.Cut
import Derived.OwnWalk
namespace Go.Proofs.YtpiohehijkpghaaDoor
open Go.RowKit
open Hy
set_option linter.unusedVariables false
set_option linter.unusedSimpArgs false

/-- The cells of the first m of a family, one behind the other. -/
def coms (C : Nat → Array Value) : Nat → List Value
  | 0 => []
  | m + 1 => coms C m ++ (C m).toList

theorem coms_len (C : Nat → Array Value) (hC : ∀ i, (C i).size = 11) : ∀ m, (coms C m).length = m * 11
  | 0 => rfl
  | m + 1 => by
    have h := coms_len C hC m
    have h2 := hC m
    simp [coms, h, h2]
    omega

theorem coms_get (C : Nat → Array Value) (hC : ∀ i, (C i).size = 11) : ∀ m j i, j < m → i < 11 → (coms C m)[j * 11 + i]? = (C j)[i]?
  | 0, j, i, h, _ => absurd h (by omega)
  | m + 1, j, i, hj, hi => by
    have hl := coms_len C hC m
    show (coms C m ++ (C m).toList)[j * 11 + i]? = _
    by_cases e : j = m
    · subst e
      rw [List.getElem?_append_right (by omega), hl]
      simp [show j * 11 + i - j * 11 = i by omega]
    · rw [List.getElem?_append_left (by rw [hl]; omega)]
      exact coms_get C hC m j i (by omega) hi

theorem coms_ext (C C' : Nat → Array Value) : ∀ m, (∀ j, j < m → C j = C' j) → coms C m = coms C' m
  | 0, _ => rfl
  | m + 1, h => by
    show coms C m ++ _ = coms C' m ++ _
    rw [coms_ext C C' m (fun j hj => h j (by omega)), h m (by omega)]

/-- The first a of a family and, behind them, the b next ones. -/
theorem coms_add (C : Nat → Array Value) (a : Nat) : ∀ b, coms C a ++ coms (fun j => C (a + j)) b = coms C (a + b)
  | 0 => by simp [coms]
  | b + 1 => by
    show coms C a ++ (coms (fun j => C (a + j)) b ++ (C (a + b)).toList) = coms C (a + b) ++ (C (a + b)).toList
    rw [← List.append_assoc, coms_add C a b]

/-- A run of at most k steps stops behind m of them. -/
structure Stops (st : Nat → Int) (k m : Nat) : Prop where
  le : m ≤ k
  runs : ∀ j, j < m → st j = 0
  end_ : m = k ∨ st m ≠ 0

theorem Stops.one {st : Nat → Int} {k m m' : Nat} (h : Stops st k m) (h' : Stops st k m') : m = m' := by
  rcases Nat.lt_trichotomy m m' with l | l | l
  · rcases h.end_ with e | e
    · have := h'.le; omega
    · exact absurd (h'.runs m l) e
  · exact l
  · rcases h'.end_ with e | e
    · have := h.le; omega
    · exact absurd (h.runs m' l) e

/-- A run of a steps, and one of b from where it stopped: a run of a + b. -/
theorem Stops.add {st : Nat → Int} {a b m m' : Nat} (h : Stops st a m) (h' : Stops (fun j => st (m + j)) b m') : Stops st (a + b) (m + m') := by
  refine ⟨by have := h.le; have := h'.le; omega, fun j hj => ?_, ?_⟩
  · by_cases e : j < m
    · exact h.runs j e
    · have := h'.runs (j - m) (by omega)
      simpa [show m + (j - m) = j by omega] using this
  · rcases h'.end_ with e | e
    · rcases h.end_ with d | d
      · left; omega
      · subst e
        rcases Nat.eq_zero_or_pos m' with z | z
        · subst z; right; exact d
        · exact absurd (h'.runs 0 z) d
    · exact .inr e
theorem owns_move {w w' : World} {base : Nat} {e : TypeId} {size : Nat} {v : Value} {n : Nat} {xs : List Value} (h : w.ownsRow base e size v n xs) (hb : ∀ g, v.ownBlock = some g → w'.heap[g]? = w.heap[g]?) : w'.ownsRow base e size v n xs := by
  obtain ⟨h1, h2⟩ := h
  refine ⟨h1, ?_⟩
  rcases h2 with h2 | ⟨g, cap, cur, hv, hg, hh, r⟩
  · exact .inl h2
  · exact .inr ⟨g, cap, cur, hv, hg, (hb g (by rw [hv]; rfl)).trans hh, r⟩
theorem owns_base {w : World} {base base' : Nat} {e : TypeId} {size : Nat} {v : Value} {n : Nat} {xs : List Value} (h : w.ownsRow base e size v n xs) (hb : base' ≤ base) : w.ownsRow base' e size v n xs := by
  obtain ⟨h1, h2⟩ := h
  refine ⟨h1, ?_⟩
  rcases h2 with h2 | ⟨g, cap, cur, hv, hg, r⟩
  · exact .inl h2
  · exact .inr ⟨g, cap, cur, hv, Nat.le_trans hb hg, r⟩
theorem owns_slice {w : World} {base : Nat} {e : TypeId} {size : Nat} {v : Value} {n : Nat} {xs : List Value} (h : w.ownsRow base e size v n xs) : ∃ lp lc, v = .slice lp n lc := by
  rcases h.2 with ⟨hv, rfl⟩ | ⟨g, cap, cur, hv, _⟩
  · exact ⟨_, _, hv⟩
  · exact ⟨_, _, hv⟩
theorem Own.move {w w' : World} {B : Nat} {p : Option Addr} {n : Nat} {f : Nat → Int} (h : Own w B p n f) {B' : Nat} (hB : B' ≤ B) (hs : w.heap.size ≤ w'.heap.size) (hb : ∀ g, B ≤ g → g < w.heap.size → w'.heap[g]? = w.heap[g]?) : Own w' B' p n f := fun h0 => by
  obtain ⟨g, hp, hl⟩ := h h0
  have h1 := hl.base
  have h2 := hl.lt
  exact ⟨g, hp, hl.moved (by omega) (hb g h1 h2) hs⟩

theorem heap_alloc2_set (w : World) (A B : Obj) (cs : Array Value) : (((w.alloc A).alloc B).setRow w.heap.size cs).heap[w.heap.size + 1]? = some B := (setRow_other _ _ _ _ (by omega)).trans (heap_alloc2_new _ _ _)
theorem size_as {H : Array Value} (h : H.size = 35) : (hcs (fun _ => 0) 0 0 0).size = H.size := h.symm
theorem info_com : (Tryd.prog.info? 38).map (fun i => (i.zero, i.size, i.bytes)) = some (some (cv 0 0 0 0 0 0 0 0 0 false 0), 11, 64) := by kernel_rfl

theorem run_buildCom (cs : Array Value) (h : cs.size = 11) (w : World) : (Instr.buildSlice 48 1 #[(0, .agg cs)]).run Tryd.prog w = .ok (.slice (some ⟨w.heap.size, 0, none⟩) 1 1) (w.alloc (.cells cs 38)) := by
  obtain ⟨c0, c1, c2, c3, c4, c5, c6, c7, c8, c9, c10, rfl⟩ := array11 h
  kernel_rfl
theorem wp_buildCom {o : Oper} {a : Act} {w : World} {K : Act → World → Prop} {Q : Exit → Act → World → Prop} (x : Operand) (ho : o.op = .buildSlice 48 1 #[(0, x)]) (cs : Array Value) (hx : a.eval x = .agg cs) (h11 : cs.size = 11)
    (h : K (a.put o.dst (.slice (some ⟨w.heap.size, 0, none⟩) 1 1)) (w.alloc (.cells cs 38))) : o.wp Tryd.prog a w K Q := by
  unfold Oper.wp execOp
  simp only [ho, List.map_toArray, List.map_cons, List.map_nil, hx, Sem.run_bind, Sem.run_pure, Result.andThen_ok, run_buildCom cs h11 w]
  exact h
theorem wpList_buildCom {ops : Array Oper} {rest : List Oper} {o : Oper} {a : Act} {w : World} {Q : Exit → Act → World → Prop} (hg : o.guard = none) (x : Operand) (ho : o.op = .buildSlice 48 1 #[(0, x)]) (cs : Array Value) (hx : a.eval x = .agg cs) (h11 : cs.size = 11)
    (h : wpList Tryd.prog ops Q rest (a.put o.dst (.slice (some ⟨w.heap.size, 0, none⟩) 1 1)) (w.alloc (.cells cs 38))) : wpList Tryd.prog ops Q (o :: rest) a w :=
  wpList_plain hg fun _ hK => wp_buildCom x ho cs hx h11 (hK _ _ h)

/-- The cells of a commit in a block of its own. -/
theorem new_row (w : World) (cs : Array Value) (t : TypeId) : ∀ j u, cs.toList[j]? = some u → (w.alloc (.cells cs t)).cell? ((⟨w.heap.size, 0, none⟩ : Addr).add j) = some u := by
  intro j u hu
  have hadd : (⟨w.heap.size, 0, none⟩ : Addr).add j = ⟨w.heap.size, j, none⟩ := by unfold Addr.add; split <;> simp_all
  rw [hadd, cell_of_row _ w.heap.size j cs t (0, 0) (heap_alloc_new w _)]
  simpa using hu
theorem Ones.mem {H : Array Value} (h : Ones H) : ∀ u ∈ H.toList, u.oneCell' = true := fun u hu => (Array.all_eq_true_iff_forall_mem.1 h) u (by simpa using hu)

/-- A family of harts, of commits and of memories, one behind the other. -/
structure Fam (H C : Nat → Array Value) (st : Nat → Int) : Prop where
  hH : ∀ i, (H i).size = 35 ∧ Ones (H i)
  hC : ∀ i, (C i).size = 11 ∧ Ones (C i)
  h33 : ∀ i, (H i)[33]? = some (.int .i64 (st i))

end Go.Proofs.YtpiohehijkpghaaDoor
