/- Numbers that lie in memory; a map that counts. -/
import Derived.Test.YtpiohehijkpghabRenA
import Derived.Maps.OwnOps
import Derived.Maps.Views
import Derived.OwnWalk
import Derived.Laws.OwnMore
namespace Go.Proofs.Ytpiohehijkpghab
open Go.RowKit
open Hy
set_option linter.unusedVariables false

/-- A slice of n numbers, as memory holds them. -/
structure Lie (w : World) (a : Option Addr) (n c : Nat) (f : Nat → Int) : Prop where
  le : n ≤ c
  top : c ≤ maxLen
  nil : a = none → n = 0 ∧ c = 0
  wf : ∀ i, i < n → (Lit.int .i64 (f i)).wf = true
  ad : ∀ x, a = some x → 0 < n → ∃ b o, x = ⟨b, o, none⟩ ∧ ∀ i, i < n → w.cell? ⟨b, o + i, none⟩ = some (.int .i64 (f i))
theorem Lie.below {w w' : World} {a : Option Addr} {n c : Nat} {f : Nat → Int} (h : Lie w a n c f) {B : Nat} (hB : w.heap.size ≤ B) (hb : Below B w w') : Lie w' a n c f :=
  ⟨h.le, h.top, h.nil, h.wf, fun x hx h0 => by
    obtain ⟨b, o, rfl, hc⟩ := h.ad x hx h0
    exact ⟨b, o, rfl, fun i hi => (hb.cell (p := ⟨b, o + i, none⟩) (Nat.lt_of_lt_of_le (World.block_lt_of_cell? _ _ (hc i hi)) hB)).trans (hc i hi)⟩⟩
theorem Lie.congr {w : World} {a : Option Addr} {n c : Nat} {f f' : Nat → Int} (h : Lie w a n c f) (e : ∀ i, i < n → f i = f' i) : Lie w a n c f' :=
  ⟨h.le, h.top, h.nil, fun i hi => by rw [← e i hi]; exact h.wf i hi, fun x hx h0 => by
    obtain ⟨b, o, rfl, hc⟩ := h.ad x hx h0
    exact ⟨b, o, rfl, fun i hi => by rw [← e i hi]; exact hc i hi⟩⟩
/-- Where there are some, they are somewhere. -/
theorem Lie.sure {w : World} {a : Option Addr} {n c : Nat} {f : Nat → Int} (h : Lie w a n c f) (hn : 0 < n) : ∃ b o, a = some ⟨b, o, none⟩ ∧ b < w.heap.size ∧ ∀ i, i < n → w.cell? ⟨b, o + i, none⟩ = some (.int .i64 (f i)) := by
  cases a with
  | none => have := (h.nil rfl).1; omega
  | some x =>
    obtain ⟨b, o, rfl, hc⟩ := h.ad x rfl hn
    exact ⟨b, o, rfl, World.block_lt_of_cell? _ _ (hc 0 hn), hc⟩
/-- A slice of the call's own. -/
def Far (B : Nat) (a : Option Addr) : Prop := ∀ x, a = some x → B ≤ x.block
theorem Far.mono {B B' : Nat} {a : Option Addr} (h : Far B a) (hB : B' ≤ B) : Far B' a := fun x hx => Nat.le_trans hB (h x hx)
theorem Lie.moved {w w' : World} {a : Option Addr} {n c : Nat} {f : Nat → Int} (h : Lie w a n c f) (hb : ∀ x, a = some x → w'.heap[x.block]? = w.heap[x.block]?) : Lie w' a n c f :=
  ⟨h.le, h.top, h.nil, h.wf, fun x hx h0 => by
    have e := hb x hx
    obtain ⟨b, o, rfl, hc⟩ := h.ad x hx h0
    exact ⟨b, o, rfl, fun i hi => (World.cell?_of_block (w := w) (a := ⟨b, o + i, none⟩) e).trans (hc i hi)⟩⟩
/-- The numbers as cells. -/
def row (f : Nat → Int) (n : Nat) : List Value := (List.range n).map fun i => Value.int .i64 (f i)
theorem row_len (f : Nat → Int) (n : Nat) : (row f n).length = n := by simp [row]
theorem row_at {f : Nat → Int} {n j : Nat} {u : Value} (h : (row f n)[j]? = some u) : j < n ∧ u = .int .i64 (f j) := by
  have hj : j < n := by have := (List.getElem?_eq_some_iff.1 h).1; rwa [row_len] at this
  refine ⟨hj, ?_⟩
  simp [row, hj] at h
  exact h.symm
theorem row_get (f : Nat → Int) {n j : Nat} (h : j < n) : (row f n)[j]? = some (.int .i64 (f j)) := by simp [row, h]
theorem row_one (f : Nat → Int) (n : Nat) : ∀ u ∈ row f n, u.oneCell' = true := by
  intro u hu
  obtain ⟨x, _, rfl⟩ := List.mem_map.1 hu
  rfl
/-- One row behind n of another one. -/
def cat (F : Nat → Int) (n : Nat) (f : Nat → Int) (i : Nat) : Int := if i < n then F i else f (i - n)
theorem row_cat (F : Nat → Int) (n : Nat) (f : Nat → Int) (m : Nat) : row F n ++ row f m = row (cat F n f) (n + m) := by
  apply List.ext_getElem?
  intro j
  by_cases h : j < n
  · rw [List.getElem?_append_left (by rw [row_len]; exact h), row_get _ h, row_get _ (by omega)]
    unfold cat
    rw [if_pos h]
  · rw [List.getElem?_append_right (by rw [row_len]; omega), row_len]
    by_cases h2 : j < n + m
    · rw [row_get _ (by omega), row_get _ h2]
      unfold cat
      rw [if_neg h]
    · rw [List.getElem?_eq_none (by rw [row_len]; omega), List.getElem?_eq_none (by rw [row_len]; omega)]
theorem row_congr {f f' : Nat → Int} {n : Nat} (e : ∀ i, i < n → f i = f' i) : row f n = row f' n := by
  unfold row
  apply List.map_congr_left
  intro i hi
  rw [e i (by simpa using hi)]
theorem lie_of_own {w : World} {B e n : Nat} {v : Value} {f : Nat → Int} (hown : w.ownsRow B e 1 v n (row f n)) (hw : ∀ i, i < n → (Lit.int .i64 (f i)).wf = true) : ∃ a c, v = .slice a n c ∧ Lie w a n c f ∧ Far B a := by
  have hown0 := hown
  obtain ⟨_, hcase⟩ := hown
  rcases hcase with ⟨rfl, rfl⟩ | ⟨g, cap, cur, rfl, hg, hh, hn', hcap, hsz, htake⟩
  · exact ⟨none, 0, rfl, ⟨Nat.le_refl _, by unfold maxLen; omega, fun _ => ⟨rfl, rfl⟩, hw, fun x hx _ => by cases hx⟩, fun x hx => by cases hx⟩
  · refine ⟨_, cap, rfl, ⟨hn', hcap, fun h => (nomatch h), hw, fun x hx _ => ⟨g, 0, (Option.some.inj hx).symm, fun i hi => ?_⟩⟩, fun x hx => by obtain rfl := Option.some.inj hx; exact hg⟩
    have := hown0.cells (g := g) rfl i _ (row_get f hi)
    rwa [Addr.add_lit] at this

/-- 'append', whatever is appended: nothing at nil, or what lies there. -/
theorem wpList_append_lie {P : Program} (w : World) {ops : Array Oper} {rest : List Oper} {o : Oper} {a : Act} {Q : Exit → Act → World → Prop} (hgd : o.guard = none) (s x : Operand) (t : TypeId)
    (ho : o.op = .call { callee := .builtin .append, args := #[s, x], argTypes := #[t, t] })
    (base : Nat) (e : TypeId) (i : TypeInfo) (ht : P.underlying t = some (.slice e)) (hi : P.info? e = some i) (hz : i.zero = some (.int .i64 0)) (hsize : i.size = 1) (hby : i.bytes = 8)
    (v : Value) (n : Nat) (F : Nat → Int) (hs : a.eval s = v) (hown : w.ownsRow base e 1 v n (row F n))
    (ao : Option Addr) (m c : Nat) (f : Nat → Int) (hx : a.eval x = .slice ao m c) (hl : Lie w ao m c f) (hb : n + m ≤ 1000000) (hbase : base ≤ w.heap.size)
    (h : ∀ v' w', w'.ownsRow base e 1 v' (n + m) (row (cat F n f) (n + m)) → w.grownBy w' v.ownBlock → wpList P ops Q rest (a.put o.dst v') w') : wpList P ops Q (o :: rest) a w := by
  cases ao with
  | some ad =>
    refine wpList_append_own w hgd s x t ho base e i (.int .i64 0) 1 8 ht hi hz hsize hby rfl (by decide) v n _ hs hown ad m c (row f m) hx (by rw [row_len]; omega) (fun j u hj => ?_) (row_one f m) (by unfold maxLen; omega) (by omega) hbase fun v' w' h1 h2 _ => h v' w' (by rw [← row_cat]; exact h1) h2
    obtain ⟨hj', rfl⟩ := row_at hj
    obtain ⟨b, o', rfl, hc⟩ := hl.ad ad rfl (by omega)
    rw [Addr.add_lit]
    exact hc j hj'
  | none =>
    obtain ⟨rfl, rfl⟩ := hl.nil rfl
    refine wpList_plain hgd fun K hK' => ?_
    have hrun := run_append_owned_none (P := P) w base t o.type e i 1 ht hi v n _ hown
    unfold Oper.wp
    simp only [execOp, ho, resolve, invoke, builtin, Sem.run_bind, Sem.run_pure, Result.andThen_ok, List.map_toArray, List.map_cons, List.map_nil, hs, hx, hrun]
    exact hK' _ _ (h v w (by rw [← row_cat]; simpa [row] using hown) (World.grownBy.refl _ _))

/-- A map as read tells how often each number is among the first ones. -/
structure Cnts (D : DataW Unit) (g : Nat → Int) (k : Nat) : Prop where
  is : Maps.IsMap D
  at' : ∀ x, D.atKey (.int .i64 x) (.lit (.int .i64 0)) = .lit (.int .i64 (cn g x k))
theorem cnts_zero (g : Nat → Int) : Cnts (.map []) g 0 := ⟨⟨[], rfl⟩, fun x => rfl⟩
theorem Cnts.num {D : DataW Unit} {g : Nat → Int} {k : Nat} (h : Cnts D g k) {x c : Int} (hat : D.atKey (.int .i64 x) (.lit (.int .i64 0)) = .lit (.int .i64 c)) : c = cn g x k := by
  have := (h.at' x).symm.trans hat
  injection this with e
  injection e with _ e
  exact e.symm
theorem Cnts.step {D : DataW Unit} {g : Nat → Int} {k : Nat} (h : Cnts D g k) {y c : Int} (hy : y = c + 1) (hc : c = cn g (g k) k) : Cnts (D.put (.int .i64 (g k)) (.lit (.int .i64 y))) g (k + 1) := by
  refine ⟨h.is.put _ _, fun x => ?_⟩
  by_cases e : g k = x
  · subst e
    rw [Maps.atKey_put_same (k := .int .i64 (g k)) h.is (show WideAt.IsKeyLit (.int .i64 (g k)) from trivial), hy, hc]
    show _ = DataW.lit (Lit.int _ ((cn g (g k) k + (if g k = g k then 1 else 0) : Nat) : Int))
    rw [if_pos rfl]
    rfl
  · rw [Maps.atKey_put_other (by intro e2; injection e2 with _ e2; exact e e2.symm), h.at' x]
    show _ = DataW.lit (Lit.int _ ((cn g x k + (if g k = x then 1 else 0) : Nat) : Int))
    rw [if_neg e, Nat.add_zero]
theorem wrap_small {c : Int} (h0 : 0 ≤ c) (h1 : c ≤ 1000000) : wrap64 c = c := by
  have := WalkArith.wf_i64 (n := c) (by omega)
  unfold wrap64
  first | omega | (simp; omega)
theorem Cnts.next {D : DataW Unit} {g : Nat → Int} {k : Nat} (h : Cnts D g k) {x c : Int} (hx : x = g k) (hat : D.atKey (.int .i64 x) (.lit (.int .i64 0)) = .lit (.int .i64 c)) (hk : k < 1000000) : Cnts (D.put (.int .i64 x) (.lit (.int .i64 (wrap64 (c + 1))))) g (k + 1) := by
  subst hx
  have e := h.num hat
  have := cn_le g (g k) k
  exact h.step (wrap_small (by omega) (by omega)) e
end Go.Proofs.Ytpiohehijkpghab
