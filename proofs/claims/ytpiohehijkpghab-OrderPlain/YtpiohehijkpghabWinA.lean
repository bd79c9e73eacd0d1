/- Slices of whatever cells, as memory holds them; slots. Nothing of the program is named here. -/
import Derived.WalkKit
import Derived.ProofKit
import Derived.OwnWalk
import Derived.Below
import Derived.Laws.OwnMore
namespace Go.Proofs.Ytpiohehijkpghab
open Go.RowKit
set_option linter.unusedVariables false

/-- A slot: its number, and whether it is done. -/
abbrev Sl := Int × Bool
/-- The cells of slots. -/
def scs : List Sl → List Value
  | [] => []
  | p :: l => .int .i64 p.1 :: .bool p.2 :: scs l
theorem scs_len : ∀ l : List Sl, (scs l).length = l.length * 2
  | [] => rfl
  | p :: l => by have := scs_len l; simp [scs, this]; omega
theorem scs_app : ∀ l m : List Sl, scs (l ++ m) = scs l ++ scs m
  | [], m => rfl
  | p :: l, m => by have := scs_app l m; simp [scs, this]
theorem scs_seq : ∀ (l : List Sl) (k : Nat) (p : Sl), l[k]? = some p → (scs l)[k * 2]? = some (.int .i64 p.1)
  | [], k, p, h => by simp at h
  | q :: l, 0, p, h => by simp at h; subst h; rfl
  | q :: l, k + 1, p, h => by
    have := scs_seq l k p (by simpa using h)
    rw [show (k + 1) * 2 = k * 2 + 1 + 1 by omega]
    simpa [scs] using this
theorem scs_done : ∀ (l : List Sl) (k : Nat) (p : Sl), l[k]? = some p → (scs l)[k * 2 + 1]? = some (.bool p.2)
  | [], k, p, h => by simp at h
  | q :: l, 0, p, h => by simp at h; subst h; rfl
  | q :: l, k + 1, p, h => by
    have := scs_done l k p (by simpa using h)
    rw [show (k + 1) * 2 + 1 = k * 2 + 1 + 1 + 1 by omega]
    simpa [scs] using this
theorem scs_one : ∀ (l : List Sl), ∀ u ∈ scs l, u.oneCell' = true
  | [], u, h => by simp [scs] at h
  | p :: l, u, h => by
    simp only [scs, List.mem_cons] at h
    rcases h with rfl | rfl | h
    · rfl
    · rfl
    · exact scs_one l u h
theorem scs_drop : ∀ (l : List Sl) (m : Nat), scs (l.drop m) = (scs l).drop (m * 2)
  | l, 0 => by simp
  | [], m + 1 => by simp [scs]
  | p :: l, m + 1 => by
    have := scs_drop l m
    rw [show (m + 1) * 2 = m * 2 + 1 + 1 by omega]
    simpa [scs] using this
theorem scs_set : ∀ (l : List Sl) (k : Nat) (s : Int), (l[k]?).map (·.1) = some s → (scs l).set (k * 2 + 1) (.bool true) = scs (l.set k (s, true))
  | [], k, s, h => by simp at h
  | q :: l, 0, s, h => by simp at h; subst h; rfl
  | q :: l, k + 1, s, h => by
    have := scs_set l k s (by simpa using h)
    rw [show (k + 1) * 2 + 1 = k * 2 + 1 + 1 + 1 by omega]
    simp [scs, this]
/-- The cells of numbers. -/
def ics (l : List Int) : List Value := l.map fun x => Value.int .i64 x
theorem ics_len (l : List Int) : (ics l).length = l.length * 1 := by simp [ics]
theorem ics_app (l m : List Int) : ics (l ++ m) = ics l ++ ics m := by simp [ics]
theorem ics_get {l : List Int} {k : Nat} {x : Int} (h : l[k]? = some x) : (ics l)[k]? = some (.int .i64 x) := by simp [ics, h]
theorem ics_one (l : List Int) : ∀ u ∈ ics l, u.oneCell' = true := by
  intro u hu
  obtain ⟨x, _, rfl⟩ := List.mem_map.1 hu
  rfl
theorem ics_set (l : List Int) (k : Nat) (x : Int) : (ics l).set k (.int .i64 x) = ics (l.set k x) := by simp [ics, List.map_set]

/-- A slice of n elements of so many cells, as memory holds them. -/
structure LC (w : World) (a : Option Addr) (n c size : Nat) (cs : List Value) : Prop where
  len : cs.length = n * size
  le : n ≤ c
  top : c ≤ maxLen
  nil : a = none → n = 0 ∧ c = 0
  one : ∀ u ∈ cs, u.oneCell' = true
  ad : ∀ x, a = some x → 0 < n → ∃ b o, x = ⟨b, o, none⟩ ∧ b < w.heap.size ∧ ∀ j u, cs[j]? = some u → w.cell? ⟨b, o + j, none⟩ = some u
theorem LC.below {w w' : World} {a : Option Addr} {n c size : Nat} {cs : List Value} (h : LC w a n c size cs) {B : Nat} (hB : w.heap.size ≤ B) (hb : Below B w w') : LC w' a n c size cs :=
  ⟨h.len, h.le, h.top, h.nil, h.one, fun x hx h0 => by
    obtain ⟨b, o, rfl, hlt, hc⟩ := h.ad x hx h0
    exact ⟨b, o, rfl, Nat.lt_of_lt_of_le hlt hb.size, fun j u hj => (hb.cell (p := ⟨b, o + j, none⟩) (Nat.lt_of_lt_of_le hlt hB)).trans (hc j u hj)⟩⟩
theorem LC.moved {w w' : World} {a : Option Addr} {n c size : Nat} {cs : List Value} (h : LC w a n c size cs) (hs : w.heap.size ≤ w'.heap.size) (hb : ∀ x, a = some x → w'.heap[x.block]? = w.heap[x.block]?) : LC w' a n c size cs :=
  ⟨h.len, h.le, h.top, h.nil, h.one, fun x hx h0 => by
    have e := hb x hx
    obtain ⟨b, o, rfl, hlt, hc⟩ := h.ad x hx h0
    exact ⟨b, o, rfl, Nat.lt_of_lt_of_le hlt hs, fun j u hj => (World.cell?_of_block (w := w) (a := ⟨b, o + j, none⟩) e).trans (hc j u hj)⟩⟩
/-- Where there are some, they are somewhere. -/
theorem LC.sure {w : World} {a : Option Addr} {n c size : Nat} {cs : List Value} (h : LC w a n c size cs) (hn : 0 < n) : ∃ b o, a = some ⟨b, o, none⟩ ∧ b < w.heap.size ∧ ∀ j u, cs[j]? = some u → w.cell? ⟨b, o + j, none⟩ = some u := by
  cases a with
  | none => have := (h.nil rfl).1; omega
  | some x =>
    obtain ⟨b, o, rfl, hc⟩ := h.ad x rfl hn
    exact ⟨b, o, rfl, hc⟩
/-- A slice in blocks from B on. -/
def FarC (B : Nat) (a : Option Addr) : Prop := ∀ x, a = some x → B ≤ x.block
theorem FarC.mono {B B' : Nat} {a : Option Addr} (h : FarC B a) (hB : B' ≤ B) : FarC B' a := fun x hx => Nat.le_trans hB (h x hx)
theorem lc_none (w : World) (size : Nat) : LC w none 0 0 size [] := ⟨by simp, Nat.le_refl _, by unfold maxLen; omega, fun _ => ⟨rfl, rfl⟩, fun u hu => by simp at hu, fun x hx _ => by cases hx⟩
theorem farC_none (B : Nat) : FarC B none := fun x hx => by cases hx
theorem lc_of_own {w : World} {B e n size : Nat} {v : Value} {cs : List Value} (hown : w.ownsRow B e size v n cs) (h1 : ∀ u ∈ cs, u.oneCell' = true) : ∃ a c, v = .slice a n c ∧ LC w a n c size cs ∧ FarC B a := by
  have hown0 := hown
  obtain ⟨hl, hcase⟩ := hown
  rcases hcase with ⟨rfl, rfl⟩ | ⟨g, cap, cur, rfl, hg, hh, hn', hcap, hsz, htake⟩
  · obtain rfl : cs = [] := List.eq_nil_of_length_eq_zero (by simpa using hl)
    exact ⟨none, 0, rfl, lc_none _ _, farC_none _⟩
  · refine ⟨_, cap, rfl, ⟨hl, hn', hcap, fun h => (nomatch h), h1, fun x hx _ => ⟨g, 0, (Option.some.inj hx).symm, (Array.getElem?_eq_some_iff.1 hh).1, fun j u hj => ?_⟩⟩, fun x hx => by obtain rfl := Option.some.inj hx; exact hg⟩
    have := hown0.cells (g := g) rfl j _ hj
    rwa [Addr.add_lit] at this
/-- A slice without its first ones. -/
theorem LC.drop {w : World} {b o n c size : Nat} {cs : List Value} (h : LC w (some ⟨b, o, none⟩) n c size cs) (m : Nat) (hm : m ≤ n) {a : Option Addr} (ha : m < n → a = some ⟨b, o + m * size, none⟩) (hs : a.isSome = true) : LC w a (n - m) (c - m) size (cs.drop (m * size)) := by
  refine ⟨by rw [List.length_drop, h.len, Nat.sub_mul], by have := h.le; omega, by have := h.top; omega, fun e => by rw [e] at hs; simp at hs, fun u hu => h.one u (List.mem_of_mem_drop hu), fun x hx h0 => ?_⟩
  obtain ⟨b', o', e, hlt, hc⟩ := h.ad _ rfl (by omega)
  cases e
  rw [ha (by omega)] at hx
  refine ⟨b, o + m * size, (Option.some.inj hx).symm, hlt, fun j u hj => ?_⟩
  rw [List.getElem?_drop] at hj
  rw [Nat.add_assoc]
  exact hc _ _ hj

/-- 'append', whatever is appended: nothing at nil, or what lies there. -/
theorem wpList_append_lc {P : Program} (w : World) {ops : Array Oper} {rest : List Oper} {o : Oper} {a : Act} {Q : Exit → Act → World → Prop} (hgd : o.guard = none) (s x : Operand) (t : TypeId)
    (ho : o.op = .call { callee := .builtin .append, args := #[s, x], argTypes := #[t, t] })
    (base : Nat) (e : TypeId) (i : TypeInfo) (z : Value) (size bytes : Nat) (ht : P.underlying t = some (.slice e)) (hi : P.info? e = some i) (hz : i.zero = some z)
    (hsize : i.size = size) (hby : i.bytes = bytes) (hzs : z.cells.size = size) (hsz : 0 < size)
    (v : Value) (n : Nat) (xs : List Value) (hs : a.eval s = v) (hown : w.ownsRow base e size v n xs)
    (ao : Option Addr) (m c : Nat) (cs : List Value) (hx : a.eval x = .slice ao m c) (hl : LC w ao m c size cs) (h63 : n + m ≤ maxLen) (hb : (n + m) * bytes ≤ 140737488355328) (hbase : base ≤ w.heap.size)
    (h : ∀ v' w', w'.ownsRow base e size v' (n + m) (xs ++ cs) → w.grownBy w' v.ownBlock → wpList P ops Q rest (a.put o.dst v') w') : wpList P ops Q (o :: rest) a w := by
  cases ao with
  | some ad =>
    by_cases hm : 0 < m
    · refine wpList_append_own w hgd s x t ho base e i z size bytes ht hi hz hsize hby hzs hsz v n _ hs hown ad m c cs hx hl.len (fun j u hj => ?_) hl.one h63 hb hbase fun v' w' h1 h2 _ => h v' w' h1 h2
      obtain ⟨b, o', rfl, _, hc⟩ := hl.ad ad rfl hm
      rw [Addr.add_lit]
      exact hc j u hj
    · obtain rfl : m = 0 := by omega
      refine wpList_append_own w hgd s x t ho base e i z size bytes ht hi hz hsize hby hzs hsz v n _ hs hown ad 0 c cs hx hl.len (fun j u hj => ?_) hl.one h63 hb hbase fun v' w' h1 h2 _ => h v' w' h1 h2
      have hnil : cs = [] := List.eq_nil_of_length_eq_zero (by simpa using hl.len)
      rw [hnil] at hj
      simp at hj
  | none =>
    obtain ⟨rfl, rfl⟩ := hl.nil rfl
    obtain rfl : cs = [] := List.eq_nil_of_length_eq_zero (by simpa using hl.len)
    refine wpList_plain hgd fun K hK' => ?_
    have hrun := run_append_owned_none (P := P) w base t o.type e i size ht hi v n _ hown
    unfold Oper.wp
    simp only [execOp, ho, resolve, invoke, builtin, Sem.run_bind, Sem.run_pure, Result.andThen_ok, List.map_toArray, List.map_cons, List.map_nil, hs, hx, hrun]
    exact hK' _ _ (h v w (by simpa using hown) (World.grownBy.refl _ _))

/-- The first place of which it holds, or the end. -/
structure First (p : Sl → Bool) (l : List Sl) (m : Nat) : Prop where
  le : m ≤ l.length
  no : ∀ j q, j < m → l[j]? = some q → p q = false
  yes : ∀ q, l[m]? = some q → p q = true
theorem first_ex (p : Sl → Bool) : ∀ l, ∃ m, First p l m
  | [] => ⟨0, Nat.le_refl _, fun j q h => absurd h (by omega), fun q h => by simp at h⟩
  | q :: l => by
    cases hq : p q with
    | true => exact ⟨0, Nat.zero_le _, fun j q h => absurd h (by omega), fun q' h => by simp at h; subst h; exact hq⟩
    | false =>
      obtain ⟨m, h⟩ := first_ex p l
      refine ⟨m + 1, by have := h.le; simp; omega, fun j q' hj hq' => ?_, fun q' h' => h.yes q' (by simpa using h')⟩
      cases j with
      | zero => simp at hq'; subst hq'; exact hq
      | succ j => exact h.no j q' (by omega) (by simpa using hq')
theorem First.none {p : Sl → Bool} {l : List Sl} {m : Nat} (h : First p l m) (hm : m = l.length) : ∀ q ∈ l, p q = false := fun q hq => by
  obtain ⟨j, hj, rfl⟩ := List.mem_iff_getElem.1 hq
  exact h.no j _ (by omega) (List.getElem?_eq_getElem hj)
theorem First.some {p : Sl → Bool} {l : List Sl} {m : Nat} (h : First p l m) (hm : m < l.length) : p l[m] = true := h.yes _ (List.getElem?_eq_getElem hm)
/-- So many go: they are done, and most of them at most. -/
structure Goes (l : List Sl) (most : Int) (m : Nat) : Prop where
  le : m ≤ l.length
  go : ∀ j q, j < m → l[j]? = some q → (j : Int) < most ∧ q.2 = true
  stop : ∀ q, l[m]? = some q → ¬ ((m : Int) < most ∧ q.2 = true)
theorem goes_ex : ∀ (l : List Sl) (most : Int), ∃ m, Goes l most m
  | [], _ => ⟨0, Nat.le_refl _, fun j q h => absurd h (by omega), fun q h => by simp at h⟩
  | q :: l, most => by
    by_cases hq : 0 < most ∧ q.2 = true
    · obtain ⟨m, h⟩ := goes_ex l (most - 1)
      refine ⟨m + 1, by have := h.le; simp; omega, fun j q' hj hq' => ?_, fun q' h' => ?_⟩
      · cases j with
        | zero => simp at hq'; subst hq'; exact ⟨by omega, hq.2⟩
        | succ j => have := h.go j q' (by omega) (by simpa using hq'); exact ⟨by omega, this.2⟩
      · have := h.stop q' (by simpa using h')
        intro h2
        exact this ⟨by omega, h2.2⟩
    · exact ⟨0, Nat.zero_le _, fun j q h => absurd h (by omega), fun q' h => by simp at h; subst h; exact_mod_cast hq⟩
theorem at_ex {l : List Sl} {k : Nat} (h : k < l.length) : ∃ s d, l[k]? = some (s, d) := ⟨_, _, List.getElem?_eq_getElem h⟩
theorem take_at {α : Type} {l : List α} {k : Nat} {p : α} (h : l[k]? = some p) : l.take (k + 1) = l.take k ++ [p] := by
  rw [List.take_add_one, h]; rfl
theorem drop_at {α : Type} {l : List α} {k : Nat} {p : α} (h : l[k]? = some p) : l.drop k = p :: l.drop (k + 1) := by
  obtain ⟨hk, rfl⟩ := List.getElem?_eq_some_iff.1 h
  exact List.drop_eq_getElem_cons hk
end Go.Proofs.Ytpiohehijkpghab
