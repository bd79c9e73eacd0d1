/- What the document tells of a word, and what the program's table tells of it, are the same. Nothing of the program is named here. -/
import Derived.Test.YtpiohehijkpghaaDoorDecX
namespace Go.Proofs.YtpiohehijkpghaaDoor.Hy
open Go.RowKit
set_option linter.unusedVariables false

/-- What an instruction is told by, in a word's three places. -/
def tl (n : Nat) (l d u : Int) : Bool :=
  if kn n = 1 ∨ kn n = 2 then l == kb n
  else if kn n = 3 ∨ kn n = 5 ∨ kn n = 6 then l + d * 4096 == kb n
  else l + d * 4096 + u * 33554432 == kb n

theorem hit_tl (n : Nat) (n1 : 1 ≤ n) (n2 : n ≤ 46) (x : Int) (x0 : 0 ≤ x) (x1 : x < 4294967296) : hit n x = tl n (x % 128) (x / 4096 % 8) (x / 33554432) := by
  have hk : ∀ n, n < 47 → 1 ≤ n → kn n = 1 ∨ kn n = 2 ∨ kn n = 3 ∨ kn n = 5 ∨ kn n = 6 ∨ kn n = 4 ∨ kn n = 7 := by decide
  unfold hit tl
  have e1 : fm 1 0 = 127 := by decide
  have e2 : fm 2 0 = 127 := by decide
  have e3 : fm 3 0 = 28799 := by decide
  have e5 : fm 5 0 = 28799 := by decide
  have e6 : fm 6 0 = 28799 := by decide
  have e4 : fm 4 0 = 4261441663 := by decide
  have e7 : fm 7 0 = 4261441663 := by decide
  rcases hk n (by omega) n1 with h | h | h | h | h | h | h
  all_goals rw [h]
  · rw [e1, and127 x x0 x1]; rfl
  · rw [e2, and127 x x0 x1]; rfl
  · rw [e3, told_I x x0 x1]; rfl
  · rw [e5, told_I x x0 x1]; rfl
  · rw [e6, told_I x x0 x1]; rfl
  · rw [e4, told_H x x0 x1]; rfl
  · rw [e7, told_H x x0 x1]; rfl

theorem hit_E (n : Nat) (h : n = 47 ∨ n = 48) (x : Int) (x0 : 0 ≤ x) (x1 : x < 4294967296) : hit n x = (x == kb n) := by
  have e8 : fm 8 0 = 4294967295 := by decide
  unfold hit
  rcases h with rfl | rfl
  all_goals
    rw [show kn _ = 8 from by decide, e8, andAll x x0 x1]

/-- Of two instructions a word is one at most. -/
def apartB : Bool := (List.range 49).all fun n => (List.range 49).all fun m => n == 0 || m == 0 || n == m || !(((kb n).toNat &&& (fm (kn m) 0).toNat) == ((kb m).toNat &&& (fm (kn n) 0).toNat))
theorem apartB_true : apartB = true := by decide
theorem apart (n : Nat) (hn : n < 49) (m : Nat) (hm : m < 49) (n1 : 1 ≤ n) (m1 : 1 ≤ m) (h : n ≠ m) : ((kb n).toNat &&& (fm (kn m) 0).toNat) ≠ ((kb m).toNat &&& (fm (kn n) 0).toNat) := by
  have h1 := List.all_eq_true.1 (List.all_eq_true.1 apartB_true n (List.mem_range.2 hn)) m (List.mem_range.2 hm)
  intro e
  rw [e] at h1
  have a : (n == 0) = false := by simp; omega
  have b : (m == 0) = false := by simp; omega
  have c : (n == m) = false := by simpa using h
  rw [a, b, c] at h1
  simp at h1

theorem hit_one (n m : Nat) (n1 : 1 ≤ n) (n2 : n ≤ 48) (m1 : 1 ≤ m) (m2 : m ≤ 48) (x : Int) (x0 : 0 ≤ x) (x1 : x < 4294967296) (hn : hit n x = true) (hm : hit m x = true) : n = m := by
  refine Decidable.byContradiction fun hne => ?_
  apply apart n (by omega) m (by omega) n1 m1 hne
  unfold hit at hn hm
  have t1 := told_range (kn n) (kn_lt n (by omega)).1
  have t2 := told_range (kn m) (kn_lt m (by omega)).1
  have en := beq_iff_eq.1 hn
  have em := beq_iff_eq.1 hm
  rw [u32_and x _ x0 x1 t1.1 (by omega)] at en
  rw [u32_and x _ x0 x1 t2.1 (by omega)] at em
  rw [← en, ← em]
  simp only [Int.toNat_natCast]
  rw [Nat.and_assoc, Nat.and_assoc, Nat.and_comm (fm (kn n) 0).toNat]

theorem tl_parts (m : Nat) (m1 : 1 ≤ m) (m2 : m < 47) (l d u : Int) (l0 : 0 ≤ l) (l1 : l < 128) (d0 : 0 ≤ d) (d1 : d < 8) (u0 : 0 ≤ u) (h : tl m l d u = true) :
    kb m % 128 = l ∧ (kn m = 1 ∨ kn m = 2 ∨ kb m / 4096 % 8 = d) ∧ (kn m = 4 ∨ kn m = 7 → kb m / 33554432 = u) := by
  have hk : ∀ n, n < 47 → 1 ≤ n → kn n = 1 ∨ kn n = 2 ∨ kn n = 3 ∨ kn n = 5 ∨ kn n = 6 ∨ kn n = 4 ∨ kn n = 7 := by decide
  unfold tl at h
  rcases hk m m2 m1 with e | e | e | e | e | e | e
  all_goals
    rw [e] at h ⊢
    have h' := beq_iff_eq.1 (show (_ == kb m) = true from h)
    omega

/-- The letter of a form. -/
def lett (f : Nat) : Int := [0, 85, 74, 73, 72, 66, 83, 82, 69].getD f 0

/-- What a word is told to be: an instruction's number and its form's letter; or none. -/
def told (x q l : Int) : Prop := (∃ n : Nat, 1 ≤ n ∧ n ≤ 48 ∧ q = (n : Int) ∧ hit n x = true ∧ l = lett (kn n)) ∨ (q = -1 ∧ ∀ m, 1 ≤ m → m ≤ 48 → hit m x = false)

theorem told_yes (x : Int) (x0 : 0 ≤ x) (x1 : x < 4294967296) (L D U : Int) (HL : L = x % 128) (HD : D = x / 4096 % 8) (HU : U = x / 33554432) (n : Nat) (n1 : 1 ≤ n) (n2 : n ≤ 46) (q l : Int) (hq : q = (n : Int)) (h : tl n L D U = true) (hl : l = lett (kn n)) : told x q l := by
  refine .inl ⟨n, n1, by omega, hq, ?_, hl⟩
  rw [hit_tl n n1 n2 x x0 x1, ← HL, ← HD, ← HU]
  exact h

theorem told_no (x : Int) (x0 : 0 ≤ x) (x1 : x < 4294967296) (L D U : Int) (HL : L = x % 128) (HD : D = x / 4096 % 8) (HU : U = x / 33554432) (q l : Int) (hq : q = -1)
    (h : ∀ m, m < 47 → 1 ≤ m → kb m % 128 = L → (kn m = 1 ∨ kn m = 2 ∨ kb m / 4096 % 8 = D) → (kn m = 4 ∨ kn m = 7 → kb m / 33554432 = U) → False)
    (h47 : x ≠ 115) (h48 : x ≠ 1048691) : told x q l := by
  refine .inr ⟨hq, fun m m1 m2 => ?_⟩
  by_cases hm : m < 47
  · rw [hit_tl m m1 (by omega) x x0 x1, ← HL, ← HD, ← HU, Bool.eq_false_iff]
    intro ht
    obtain ⟨a, b, c⟩ := tl_parts m m1 hm L D U (by omega) (by omega) (by omega) (by omega) (by omega) ht
    exact h m hm m1 a b c
  · rw [hit_E m (by omega) x x0 x1, beq_eq_false_iff_ne]
    rcases (by omega : m = 47 ∨ m = 48) with rfl | rfl
    · exact h47
    · exact h48
end Go.Proofs.YtpiohehijkpghaaDoor.Hy
