/- Numbers that are all different, counted. Nothing of the program is named here. -/
import Derived.WalkKit
namespace Go.Proofs.Ytpiohehijkpghab.Hy
open Go.RowKit
set_option linter.unusedVariables false

/-- How often a number is among the first ones. -/
def cn (g : Nat → Int) (x : Int) : Nat → Nat
  | 0 => 0
  | k + 1 => cn g x k + (if g k = x then 1 else 0)
/-- A sum of the first ones. -/
def sm (h : Nat → Nat) : Nat → Nat
  | 0 => 0
  | k + 1 => sm h k + h k
/-- One row behind another one. -/
def jn (r f : Nat → Int) (i : Nat) : Int := if i < 32 then r i else f (i - 32)
theorem jn_r {r f : Nat → Int} {i : Nat} (h : i < 32) : jn r f i = r i := if_pos h
theorem jn_f {r f : Nat → Int} (i : Nat) : jn r f (32 + i) = f i := by
  unfold jn
  rw [if_neg (by omega), show 32 + i - 32 = i by omega]

theorem cn_le (g : Nat → Int) (x : Int) : ∀ n, cn g x n ≤ n
  | 0 => Nat.le_refl _
  | n + 1 => by
    have := cn_le g x n
    unfold cn
    split <;> omega
theorem cn_congr {g h : Nat → Int} (x : Int) : ∀ n, (∀ i, i < n → g i = h i) → cn g x n = cn h x n
  | 0, _ => rfl
  | n + 1, e => by
    unfold cn
    rw [cn_congr x n (fun i hi => e i (by omega)), e n (by omega)]
theorem cn_jn (r f : Nat → Int) (x : Int) : ∀ n, cn (jn r f) x (32 + n) = cn r x 32 + cn f x n
  | 0 => by
    rw [Nat.add_zero, show cn f x 0 = 0 from rfl, Nat.add_zero]
    exact cn_congr x 32 fun i hi => jn_r hi
  | n + 1 => by
    show cn (jn r f) x (32 + n) + _ = cn r x 32 + (cn f x n + _)
    rw [cn_jn r f x n, show jn r f (Nat.add 32 n) = f n from jn_f n]
    omega
theorem cn_zero (g : Nat → Int) (x : Int) : ∀ n, cn g x n = 0 ↔ ∀ i, i < n → g i ≠ x
  | 0 => ⟨fun _ i h => absurd h (by omega), fun _ => rfl⟩
  | n + 1 => by
    have ih := cn_zero g x n
    constructor
    · intro h i hi
      have h' : cn g x n + (if g n = x then 1 else 0) = 0 := h
      by_cases e : g n = x
      · rw [if_pos e] at h'; omega
      · rcases (by omega : i < n ∨ i = n) with q | q
        · exact ih.1 (by omega) i q
        · rw [q]; exact e
    · intro h
      show cn g x n + (if g n = x then 1 else 0) = 0
      rw [if_neg (h n (by omega)), ih.2 (fun i hi => h i (by omega))]
/-- Each number but once: they are all different. -/
theorem cn_one (g : Nat → Int) (Q : Int → Prop) : ∀ n, (∀ i, i < n → Q (g i)) → ((∀ x, Q x → cn g x n ≤ 1) ↔ ∀ i j, i < n → j < n → g i = g j → i = j)
  | 0, _ => ⟨fun _ i _ h => absurd h (by omega), fun _ x _ => by simp [cn]⟩
  | n + 1, hQ => by
    have ih := cn_one g Q n (fun i hi => hQ i (by omega))
    constructor
    · intro h
      have h1 : ∀ x, Q x → cn g x n ≤ 1 := fun x hx => by
        have := h x hx
        unfold cn at this
        omega
      have h2 : ∀ i, i < n → g i ≠ g n := by
        have h3 := h (g n) (hQ n (by omega))
        unfold cn at h3
        rw [if_pos rfl] at h3
        exact (cn_zero g (g n) n).1 (by omega)
      intro i j hi hj e
      rcases (by omega : i < n ∨ i = n) with a | a <;> rcases (by omega : j < n ∨ j = n) with b | b
      · exact (ih.1 h1) i j a b e
      · subst b; exact absurd e (h2 i a)
      · subst a; exact absurd e.symm (h2 j b)
      · omega
    · intro h x hx
      have h1 := ih.2 (fun i j hi hj e => h i j (by omega) (by omega) e) x hx
      unfold cn
      by_cases e : g n = x
      · have : cn g x n = 0 := (cn_zero g x n).2 fun i hi e2 => by
          have := h i n (by omega) (by omega) (by rw [e, e2])
          omega
        rw [if_pos e]; omega
      · rw [if_neg e]; omega

theorem sm_congr {a b : Nat → Nat} : ∀ n, (∀ i, i < n → a i = b i) → sm a n = sm b n
  | 0, _ => rfl
  | n + 1, e => by
    unfold sm
    rw [sm_congr n (fun i hi => e i (by omega)), e n (by omega)]
theorem sm_le {a b : Nat → Nat} : ∀ n, (∀ i, i < n → a i ≤ b i) → sm a n ≤ sm b n
  | 0, _ => Nat.le_refl _
  | n + 1, e => by
    have h1 := sm_le n (fun i hi => e i (by omega))
    have h2 := e n (by omega)
    unfold sm
    omega
theorem sm_eq {a b : Nat → Nat} : ∀ n, (∀ i, i < n → a i ≤ b i) → sm a n = sm b n → ∀ i, i < n → a i = b i
  | 0, _, _ => fun i h => absurd h (by omega)
  | n + 1, e, h => fun i hi => by
    have h1 := sm_le n (fun i hi => e i (by omega))
    have h2 := e n (by omega)
    unfold sm at h
    rcases (by omega : i < n ∨ i = n) with q | q
    · exact sm_eq n (fun i hi => e i (by omega)) (by omega) i q
    · subst q; omega
theorem sm_ones {a : Nat → Nat} (n : Nat) (h : ∀ i, i < n → a i ≤ 1) : sm a n ≤ n := by
  have : ∀ n, sm (fun _ => 1) n = n := fun n => by
    induction n with
    | zero => rfl
    | succ n ih => show sm _ n + 1 = n + 1; rw [ih]
  exact Nat.le_trans (sm_le n h) (Nat.le_of_eq (this n))
theorem sm_add (a b : Nat → Nat) : ∀ n, sm (fun i => a i + b i) n = sm a n + sm b n
  | 0 => rfl
  | n + 1 => by
    show sm (fun i => a i + b i) n + (a n + b n) = sm a n + a n + (sm b n + b n)
    rw [sm_add a b n]
    omega
theorem sm_hit (y : Int) : ∀ n : Nat, sm (fun p => if y = (p : Int) then 1 else 0) n = if 0 ≤ y ∧ y < n then 1 else 0
  | 0 => by simp [sm]
  | n + 1 => by
    show sm (fun p => if y = (p : Int) then 1 else 0) n + (if y = (n : Int) then 1 else 0) = _
    rw [sm_hit y n]
    by_cases e : y = n
    · rw [if_neg (by omega), if_pos e, if_pos (by omega)]
    · rw [if_neg e]
      by_cases q : 0 ≤ y ∧ y < n
      · rw [if_pos q, if_pos (by omega)]
      · rw [if_neg q, if_neg (by omega)]
/-- How many of a row are numbers of so many. -/
theorem sm_cn (g : Nat → Int) (P : Nat) : ∀ N, sm (fun p => cn g p (N + 1)) P = sm (fun p => cn g p N) P + if 0 ≤ g N ∧ g N < P then 1 else 0 := fun N => by
  have : sm (fun p => cn g p (N + 1)) P = sm (fun p => cn g p N + (if g N = (p : Int) then 1 else 0)) P := rfl
  rw [this, sm_add, sm_hit]
theorem sm_cn_le (g : Nat → Int) (P : Nat) : ∀ N, sm (fun p => cn g p N) P ≤ N
  | 0 => by
    have : sm (fun p => cn g p 0) P ≤ sm (fun _ => 0) P := sm_le P (fun i _ => Nat.le_refl _)
    have h0 : ∀ n, sm (fun _ => 0) n = 0 := fun n => by induction n with
      | zero => rfl
      | succ n ih => show sm _ n + 0 = 0; rw [ih]
    rw [h0] at this
    exact this
  | N + 1 => by
    rw [sm_cn]
    have := sm_cn_le g P N
    split <;> omega
theorem sm_cn_all (g : Nat → Int) (P : Nat) : ∀ N, sm (fun p => cn g p N) P = N ↔ ∀ i, i < N → 0 ≤ g i ∧ g i < P
  | 0 => ⟨fun _ i h => absurd h (by omega), fun _ => by have := sm_cn_le g P 0; omega⟩
  | N + 1 => by
    have ih := sm_cn_all g P N
    have hle := sm_cn_le g P N
    rw [sm_cn]
    constructor
    · intro h i hi
      by_cases e : 0 ≤ g N ∧ g N < P
      · rw [if_pos e] at h
        rcases (by omega : i < N ∨ i = N) with q | q
        · exact ih.1 (by omega) i q
        · rw [q]; exact e
      · rw [if_neg e] at h; omega
    · intro h
      rw [if_pos (h N (by omega)), ih.2 (fun i hi => h i (by omega))]
/-- So many numbers, from 0 to below P, all different. -/
structure All (g : Nat → Int) (N P : Nat) : Prop where
  rng : ∀ i, i < N → 0 ≤ g i ∧ g i < P
  inj : ∀ i j, i < N → j < N → g i = g j → i = j
theorem all_doc (g : Nat → Int) (N P : Nat) : ((∀ p, p < P → cn g (p : Nat) N ≤ 1) ∧ sm (fun p => cn g p N) P = N) ↔ All g N P := by
  rw [sm_cn_all]
  constructor
  · rintro ⟨h, hr⟩
    refine ⟨hr, (cn_one g (fun x => 0 ≤ x ∧ x < P) N hr).1 fun x hx => ?_⟩
    have := h x.toNat (by omega)
    rwa [Int.toNat_of_nonneg hx.1] at this
  · rintro ⟨hr, hi⟩
    exact ⟨fun p hp => (cn_one g (fun x => 0 ≤ x ∧ x < P) N hr).2 hi p ⟨by omega, by omega⟩, hr⟩
/-- Is it there just once? -/
def o1 (g : Nat → Int) (N p : Nat) : Nat := if cn g p N = 1 then 1 else 0
theorem all_prog (g : Nat → Int) (N P : Nat) : (N ≤ P ∧ sm (o1 g N) P = N) ↔ All g N P := by
  rw [← all_doc]
  have hle : ∀ p, p < P → o1 g N p ≤ cn g p N := fun p _ => by unfold o1; split <;> omega
  constructor
  · rintro ⟨h1, h2⟩
    have a := sm_le P hle
    have b := sm_cn_le g P N
    have c := sm_eq P hle (by omega)
    refine ⟨fun p hp => ?_, by omega⟩
    rw [← c p hp]
    unfold o1
    split <;> omega
  · rintro ⟨h1, h2⟩
    have c : ∀ p, p < P → o1 g N p = cn g p N := fun p hp => by
      have := h1 p hp
      unfold o1
      split <;> omega
    have e : sm (o1 g N) P = N := (sm_congr P c).trans h2
    refine ⟨?_, e⟩
    have := sm_ones P (fun i hi => (show o1 g N i ≤ 1 by unfold o1; split <;> omega))
    omega

/-- There may be such a map. -/
structure MayBe (P : Int) (n : Nat) (r f : Nat → Int) : Prop where
  low : 33 ≤ P
  high : P ≤ 96
  all : All (jn r f) (32 + n) P.toNat
theorem MayBe.r {P : Int} {n : Nat} {r f : Nat → Int} (h : MayBe P n r f) (i : Nat) (hi : i < 32) : 0 ≤ r i ∧ r i < P := by
  have := h.all.rng i (by omega)
  rw [jn_r hi] at this
  have := h.low
  omega
theorem MayBe.f {P : Int} {n : Nat} {r f : Nat → Int} (h : MayBe P n r f) (i : Nat) (hi : i < n) : 0 ≤ f i ∧ f i < P := by
  have := h.all.rng (32 + i) (by omega)
  rw [jn_f] at this
  have := h.low
  omega
theorem MayBe.rr {P : Int} {n : Nat} {r f : Nat → Int} (h : MayBe P n r f) (i j : Nat) (hi : i < 32) (hj : j < 32) (e : r i = r j) : i = j :=
  h.all.inj i j (by omega) (by omega) (by rw [jn_r hi, jn_r hj, e])
theorem MayBe.ff {P : Int} {n : Nat} {r f : Nat → Int} (h : MayBe P n r f) (i j : Nat) (hi : i < n) (hj : j < n) (e : f i = f j) : i = j := by
  have := h.all.inj (32 + i) (32 + j) (by omega) (by omega) (by rw [jn_f, jn_f, e])
  omega
theorem MayBe.rf {P : Int} {n : Nat} {r f : Nat → Int} (h : MayBe P n r f) (i j : Nat) (hi : i < 32) (hj : j < n) : r i ≠ f j := fun e => by
  have := h.all.inj i (32 + j) (by omega) (by omega) (by rw [jn_r hi, jn_f, e])
  omega
theorem MayBe.few {P : Int} {n : Nat} {r f : Nat → Int} (h : MayBe P n r f) : 32 + n ≤ P ∧ n ≤ 64 := by
  have := ((all_prog _ _ _).2 h.all).1
  have := h.low
  have := h.high
  omega
theorem MayBe.mk' {P : Int} {n : Nat} {r f : Nat → Int} (low : 33 ≤ P) (high : P ≤ 96) (hr : ∀ i, i < 32 → 0 ≤ r i ∧ r i < P) (hf : ∀ i, i < n → 0 ≤ f i ∧ f i < P)
    (rr : ∀ i j, i < 32 → j < 32 → r i = r j → i = j) (ff : ∀ i j, i < n → j < n → f i = f j → i = j) (rf : ∀ i j, i < 32 → j < n → r i ≠ f j) : MayBe P n r f := by
  refine ⟨low, high, fun i hi => ?_, fun i j hi hj e => ?_⟩
  · by_cases a : i < 32
    · rw [jn_r a]; have := hr i a; omega
    · rw [show i = 32 + (i - 32) by omega, jn_f]; have := hf (i - 32) (by omega); omega
  · by_cases a : i < 32 <;> by_cases b : j < 32
    · rw [jn_r a, jn_r b] at e; exact rr i j a b e
    · rw [jn_r a, show j = 32 + (j - 32) by omega, jn_f] at e; exact absurd e (rf i _ a (by omega))
    · rw [jn_r b, show i = 32 + (i - 32) by omega, jn_f] at e; exact absurd e.symm (rf j _ b (by omega))
    · rw [show i = 32 + (i - 32) by omega, show j = 32 + (j - 32) by omega, jn_f, jn_f] at e
      have := ff (i - 32) (j - 32) (by omega) (by omega) e
      omega
def up (f : Nat → Int) (k : Nat) (x : Int) (j : Nat) : Int := if j = k then x else f j
theorem up_at (f : Nat → Int) (k : Nat) (x : Int) : up f k x k = x := if_pos rfl
theorem up_ne {f : Nat → Int} {k : Nat} {x : Int} {j : Nat} (h : j ≠ k) : up f k x j = f j := if_neg h
theorem up_up (f : Nat → Int) (k : Nat) (x y : Int) : up (up f k x) k y = up f k y := by
  funext j
  unfold up
  split <;> rfl
theorem up_id (f : Nat → Int) (k : Nat) : up f k (f k) = f := by
  funext j
  unfold up
  split
  · rename_i h; rw [h]
  · rfl
/-- Free, the first one taken. -/
def tl (f : Nat → Int) (i : Nat) : Int := f (i + 1)
/-- Free, with one ahead of all. -/
def hd (x : Int) (f : Nat → Int) (i : Nat) : Int := if i = 0 then x else f (i - 1)
/-- Free, with one behind n. -/
def en (f : Nat → Int) (n : Nat) (x : Int) (i : Nat) : Int := if i < n then f i else x
/-- A number that is none of a map's. -/
structure Idle (P : Int) (n : Nat) (r f : Nat → Int) (x : Int) : Prop where
  lo : 0 ≤ x
  hi : x < P
  no : cn (jn r f) x (32 + n) = 0
theorem Idle.r {P : Int} {n : Nat} {r f : Nat → Int} {x : Int} (h : Idle P n r f x) (i : Nat) (hi : i < 32) : r i ≠ x := by
  have := (cn_zero _ _ _).1 h.no i (by omega)
  rwa [jn_r hi] at this
theorem Idle.f {P : Int} {n : Nat} {r f : Nat → Int} {x : Int} (h : Idle P n r f x) (i : Nat) (hi : i < n) : f i ≠ x := by
  have := (cn_zero _ _ _).1 h.no (32 + i) (by omega)
  rwa [jn_f] at this
theorem Idle.mk' {P : Int} {n : Nat} {r f : Nat → Int} {x : Int} (lo : 0 ≤ x) (hi : x < P) (hr : ∀ i, i < 32 → r i ≠ x) (hf : ∀ i, i < n → f i ≠ x) : Idle P n r f x := by
  refine ⟨lo, hi, (cn_zero _ _ _).2 fun i hi => ?_⟩
  by_cases a : i < 32
  · rw [jn_r a]; exact hr i a
  · rw [show i = 32 + (i - 32) by omega, jn_f]; exact hf _ (by omega)

theorem may_take {P : Int} {n : Nat} {r f : Nat → Int} (h : MayBe P (n + 1) r f) (k : Nat) (hk : k < 32) : MayBe P n (up r k (f 0)) (tl f) := by
  refine .mk' h.low h.high (fun i hi => ?_) (fun i hi => h.f (i + 1) (by omega)) (fun i j hi hj e => ?_) (fun i j hi hj e => ?_) (fun i j hi hj e => ?_)
  · unfold up; split
    · exact h.f 0 (by omega)
    · exact h.r i hi
  · unfold up at e
    split at e <;> split at e
    · omega
    · exact absurd e.symm (h.rf j 0 hj (by omega))
    · exact absurd e (h.rf i 0 hi (by omega))
    · exact h.rr i j hi hj e
  · have := h.ff (i + 1) (j + 1) (by omega) (by omega) e
    omega
  · unfold up at e
    split at e
    · have := h.ff 0 (j + 1) (by omega) (by omega) e
      omega
    · exact h.rf i (j + 1) hi (by omega) e
/-- What a register was in is used no more. -/
theorem idle_take {P : Int} {n : Nat} {r f : Nat → Int} (h : MayBe P (n + 1) r f) (k : Nat) (hk : k < 32) : Idle P n (up r k (f 0)) (tl f) (r k) := by
  have := h.r k hk
  refine .mk' this.1 this.2 (fun i hi e => ?_) (fun i hi e => h.rf k (i + 1) hk (by omega) e.symm)
  unfold up at e
  split at e
  · exact h.rf k 0 hk (by omega) e.symm
  · rename_i hne
    exact hne (h.rr i k hi hk e)
theorem may_give {P : Int} {n : Nat} {r f : Nat → Int} {x : Int} (h : MayBe P n r f) (hx : Idle P n r f x) : MayBe P (n + 1) r (en f n x) := by
  refine .mk' h.low h.high h.r (fun i hi => ?_) h.rr (fun i j hi hj e => ?_) (fun i j hi hj e => ?_)
  · unfold en; split
    · exact h.f i (by omega)
    · exact ⟨hx.lo, hx.hi⟩
  · unfold en at e
    split at e <;> split at e
    · exact h.ff i j (by omega) (by omega) e
    · exact absurd e (hx.f i (by omega))
    · exact absurd e.symm (hx.f j (by omega))
    · omega
  · unfold en at e
    split at e
    · exact h.rf i j hi (by omega) e
    · exact hx.r i hi e
theorem hd_tl (f : Nat → Int) : hd (f 0) (tl f) = f := by
  funext i
  unfold hd tl
  split
  · rename_i h; rw [h]
  · rw [show i - 1 + 1 = i by omega]
/-- The new map. -/
theorem may_new (P : Int) (p0 : 33 ≤ P) (p1 : P ≤ 96) : MayBe P (P.toNat - 32) (fun i => i) (fun i => 32 + i) := by
  refine .mk' p0 p1 (fun i hi => ⟨by omega, by omega⟩) (fun i hi => ⟨by omega, by omega⟩) (fun i j hi hj e => by omega) (fun i j hi hj e => by omega) (fun i j hi hj e => by omega)

/-- A map's cells. -/
abbrev mcs (P : Int) (r : Nat → Int) (v : Value) : Array Value := #[.int .i64 P, .int .i64 (r 0), .int .i64 (r 1), .int .i64 (r 2), .int .i64 (r 3), .int .i64 (r 4), .int .i64 (r 5), .int .i64 (r 6), .int .i64 (r 7), .int .i64 (r 8), .int .i64 (r 9), .int .i64 (r 10), .int .i64 (r 11), .int .i64 (r 12), .int .i64 (r 13), .int .i64 (r 14), .int .i64 (r 15), .int .i64 (r 16), .int .i64 (r 17), .int .i64 (r 18), .int .i64 (r 19), .int .i64 (r 20), .int .i64 (r 21), .int .i64 (r 22), .int .i64 (r 23), .int .i64 (r 24), .int .i64 (r 25), .int .i64 (r 26), .int .i64 (r 27), .int .i64 (r 28), .int .i64 (r 29), .int .i64 (r 30), .int .i64 (r 31), v]
theorem mcs_R (P : Int) (r : Nat → Int) (v : Value) (k : Nat) (h : k < 32) : (mcs P r v)[1 + k]? = some (.int .i64 (r k)) :=
  match k, h with
  | 0, _ => rfl
  | 1, _ => rfl
  | 2, _ => rfl
  | 3, _ => rfl
  | 4, _ => rfl
  | 5, _ => rfl
  | 6, _ => rfl
  | 7, _ => rfl
  | 8, _ => rfl
  | 9, _ => rfl
  | 10, _ => rfl
  | 11, _ => rfl
  | 12, _ => rfl
  | 13, _ => rfl
  | 14, _ => rfl
  | 15, _ => rfl
  | 16, _ => rfl
  | 17, _ => rfl
  | 18, _ => rfl
  | 19, _ => rfl
  | 20, _ => rfl
  | 21, _ => rfl
  | 22, _ => rfl
  | 23, _ => rfl
  | 24, _ => rfl
  | 25, _ => rfl
  | 26, _ => rfl
  | 27, _ => rfl
  | 28, _ => rfl
  | 29, _ => rfl
  | 30, _ => rfl
  | 31, _ => rfl
  | n + 32, h => absurd h (by omega)
theorem set_R (P : Int) (r : Nat → Int) (v : Value) (x : Int) (k : Nat) (h : k < 32) : (mcs P r v).setIfInBounds (1 + k) (.int .i64 x) = mcs P (up r k x) v :=
  match k, h with
  | 0, _ => rfl
  | 1, _ => rfl
  | 2, _ => rfl
  | 3, _ => rfl
  | 4, _ => rfl
  | 5, _ => rfl
  | 6, _ => rfl
  | 7, _ => rfl
  | 8, _ => rfl
  | 9, _ => rfl
  | 10, _ => rfl
  | 11, _ => rfl
  | 12, _ => rfl
  | 13, _ => rfl
  | 14, _ => rfl
  | 15, _ => rfl
  | 16, _ => rfl
  | 17, _ => rfl
  | 18, _ => rfl
  | 19, _ => rfl
  | 20, _ => rfl
  | 21, _ => rfl
  | 22, _ => rfl
  | 23, _ => rfl
  | 24, _ => rfl
  | 25, _ => rfl
  | 26, _ => rfl
  | 27, _ => rfl
  | 28, _ => rfl
  | 29, _ => rfl
  | 30, _ => rfl
  | 31, _ => rfl
  | n + 32, h => absurd h (by omega)
theorem set_F (P : Int) (r : Nat → Int) (v u : Value) : (mcs P r v).setIfInBounds 33 u = mcs P r u := rfl
theorem set_P (P Q : Int) (r : Nat → Int) (v : Value) : (mcs P r v).setIfInBounds 0 (.int .i64 Q) = mcs Q r v := rfl
theorem mcs_size (P : Int) (r : Nat → Int) (v : Value) : (mcs P r v).size = 34 := rfl
end Go.Proofs.Ytpiohehijkpghab.Hy
