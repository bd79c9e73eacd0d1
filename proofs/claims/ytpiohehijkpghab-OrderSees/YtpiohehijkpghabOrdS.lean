/- What a load sees, as plain numbers. Nothing of the program is named here. -/
import Derived.Test.YtpiohehijkpghabOrdA
namespace Go.Proofs.Ytpiohehijkpghab
open Go.RowKit
open Hy
set_option linter.unusedVariables false
set_option linter.unusedSimpArgs false
/-- The bytes that are seen from a place on. -/
def sb (l : List Ac) (seq : Int) (n A : Nat) (f : Nat → Int) : Nat → Int := fun i => seen l seq ((A : Int) + i) (f (A + i)) n
theorem sb_rng {l : List Ac} {seq : Int} {n A : Nat} {f : Nat → Int} {i : Nat} (h : 0 ≤ f (A + i) ∧ f (A + i) ≤ 255) : 0 ≤ sb l seq n A f i ∧ sb l seq n A f i ≤ 255 := seen_rng _ _ _ _ _ h
/-- The number of the highest ones. -/
def hiN (s : Nat → Int) (m : Nat) : Nat → Int
  | 0 => 0
  | j + 1 => 256 * hiN s m j + s (m - 1 - j)
theorem hiN_rng {s : Nat → Int} {m j : Nat} (hm : m ≤ 4) (hj : j ≤ m) (h : ∀ i, i < m → 0 ≤ s i ∧ s i ≤ 255) : 0 ≤ hiN s m j ∧ hiN s m j < 4294967296 ∧ (j < m → hiN s m j < 16777216) := by
  have e : ∀ j, j ≤ m → 0 ≤ hiN s m j ∧ hiN s m j < ((256 ^ j : Nat) : Int) := by
    intro j
    induction j with
    | zero => intro _; exact ⟨Int.le_refl _, show (0 : Int) < ((256 ^ 0 : Nat) : Int) by decide⟩
    | succ j ih =>
      intro hj
      have h1 := ih (by omega)
      have h2 := h (m - 1 - j) (by omega)
      have e2 : ((256 ^ (j + 1) : Nat) : Int) = 256 * ((256 ^ j : Nat) : Int) := by rw [Nat.pow_succ]; simp [Int.mul_comm]
      rw [e2]
      unfold hiN
      omega
  have h1 := e j hj
  have h4 : ((256 ^ j : Nat) : Int) ≤ ((256 ^ 4 : Nat) : Int) := by exact_mod_cast Nat.pow_le_pow_right (by omega) (by omega)
  have e4 : ((256 ^ 4 : Nat) : Int) = 4294967296 := by decide
  refine ⟨h1.1, by omega, fun hlt => ?_⟩
  have h3 : ((256 ^ j : Nat) : Int) ≤ ((256 ^ 3 : Nat) : Int) := by exact_mod_cast Nat.pow_le_pow_right (by omega) (by omega)
  have e3 : ((256 ^ 3 : Nat) : Int) = 16777216 := by decide
  omega
theorem hiN_le {s : Nat → Int} {m : Nat} (hm : m = 1 ∨ m = 2 ∨ m = 4) : hiN s m m = le s m := by
  rcases hm with rfl | rfl | rfl
  · simp [hiN, le]
  · simp [hiN, le]; omega
  · simp [hiN, le]; omega
/-- Whether none of the first ones isn't known. -/
def Sure (l : List Ac) (seq : Int) (k : Nat) (U : Bool) : Prop := U = true ↔ ∀ (j : Nat) (q : Ac), j < k → l[j]? = some q → unk seq q = false
theorem Sure.no {l : List Ac} {seq : Int} {k : Nat} {q : Ac} (hq : l[k]? = some q) (hu : unk seq q = true) : Sure l seq (k + 1) false :=
  ⟨fun h => (nomatch h), fun h => absurd ((h k q (by omega) hq).symm.trans hu) (by decide)⟩
theorem Sure.yes {l : List Ac} {seq : Int} {k : Nat} {q : Ac} {U : Bool} (h : Sure l seq k U) (hq : l[k]? = some q) (hu : unk seq q = false) : Sure l seq (k + 1) U := by
  unfold Sure at h ⊢
  rw [h]
  constructor
  · intro h1 j p hj hp
    by_cases e : j = k
    · rw [e, hq] at hp; cases hp; exact hu
    · exact h1 j p (by omega) hp
  · exact fun h1 j p hj hp => h1 j p (by omega) hp
theorem Sure.eq {l : List Ac} {seq : Int} {n m : Nat} {U : Bool} (h : Sure l seq n U) (hm : FirstA (unk seq) l m) (hl : l.length = n) : U = !(decide (m < n)) := by
  unfold Sure at h
  by_cases hlt : m < n
  · obtain ⟨q, hq⟩ := atA_ex (l := l) (k := m) (by omega)
    have : ¬ U = true := fun hu => by have h1 := h.1 hu m q hlt hq; rw [hm.yes q hq] at h1; cases h1
    simp [hlt]
    simpa using this
  · have : U = true := h.2 fun j q hj hq => hm.no j q (by omega) hq
    simp [hlt, this]
theorem unk_no1 {seq : Int} {q : Ac} (h : ahd seq q = false) : unk seq q = false := by unfold unk; rw [h]; rfl
theorem unk_no2 {seq : Int} {q : Ac} (h : q.kn = true) : unk seq q = false := by unfold unk; rw [h]; simp
theorem unk_yes {seq : Int} {q : Ac} (h1 : ahd seq q = true) (h2 : q.kn = false) : unk seq q = true := by unfold unk; rw [h1, h2]; rfl
/-- Whether there is something to be seen. -/
def Fit (many : Int) (A ml : Nat) : Prop := (many = 1 ∨ many = 2 ∨ many = 4) ∧ (A : Int) % many = 0 ∧ (A : Int) + many ≤ ml
end Go.Proofs.Ytpiohehijkpghab
