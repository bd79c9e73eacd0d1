/- Program and document, side by side. -/
import Derived.Test.YtpiohehijkpghabRenL
import Derived.Test.YtpiohehijkpghabRenM
import Derived.Test.YtpiohehijkpghabRenQ
import Derived.Test.YtpiohehijkpghabRenT
import Derived.Test.YtpiohehijkpghabRenU
import Derived.Test.YtpiohehijkpghabRenV
namespace Go.Proofs.Ytpiohehijkpghab
open Go.RowKit Go.Maps
open Hy
set_option linter.unusedVariables false
theorem lie_none (w : World) (f : Nat → Int) : Lie w none 0 0 f := ⟨Nat.le_refl _, by unfold maxLen; omega, fun _ => ⟨rfl, rfl⟩, fun i hi => absurd hi (by omega), fun x hx _ => by cases hx⟩
/-- A map that was handed in, or made. -/
structure Mp (T : Array Value) (P : Int) (r : Nat → Int) (a : Option Addr) (n c : Nat) : Prop where
  is : T = mcs P r (.slice a n c)
  rg : Rg r
  few : n ≤ 140737488355328
theorem Mp.p {T : Array Value} {P : Int} {r : Nat → Int} {a : Option Addr} {n c : Nat} (h : Mp T P r a n c) : T[0]? = some (.int .i64 P) := by rw [h.is]; rfl
theorem Mp.f {T : Array Value} {P : Int} {r : Nat → Int} {a : Option Addr} {n c : Nat} (h : Mp T P r a n c) : T[33]? = some (.slice a n c) := by rw [h.is]; rfl
theorem may_both {T : Array Value} {P : Int} {r f : Nat → Int} {a : Option Addr} {n c : Nat} (h : Mp T P r a n c) : ∃ b : Bool, (b = true ↔ MayBe P n r f) ∧
    (∀ w, Lie w a n c f → Calls Try.prog 24 #[.agg T] w fun e w' => e = .returned (.bool b) ∧ Below w.heap.size w w') ∧ (∀ w, Lie w a n c f → Calls Try.prog 25 #[.agg T] w fun e w' => e = .returned (.bool b) ∧ Below w.heap.size w w') := by
  by_cases hm : MayBe P n r f
  · exact ⟨true, ⟨fun _ => hm, fun _ => rfl⟩, fun w hL => nMay_any T P r f a n c true h.is ⟨fun _ => hm, fun _ => rfl⟩ h.p h.f h.rg h.few w hL, fun w hL => zMay_any T P r f a n c true h.is ⟨fun _ => hm, fun _ => rfl⟩ h.p h.f h.few w hL⟩
  · exact ⟨false, ⟨fun h => (nomatch h), fun h => absurd h hm⟩, fun w hL => nMay_any T P r f a n c false h.is ⟨fun h => (nomatch h), fun h => absurd h hm⟩ h.p h.f h.rg h.few w hL, fun w hL => zMay_any T P r f a n c false h.is ⟨fun h => (nomatch h), fun h => absurd h hm⟩ h.p h.f h.few w hL⟩
theorem new_both (P : Int) : ∃ (P' : Int) (r' f' : Nat → Int) (n' : Nat) (er : Int), n' ≤ 140737488355328 ∧
    (∀ w, Calls Try.prog 21 #[.int .i64 P] w fun e w' => (∃ a' c', e = .returned (.tuple #[.agg (mcs P' r' (.slice a' n' c')), .int .i64 er]) ∧ Lie w' a' n' c' f') ∧ Below w.heap.size w w') ∧
    (∀ w, Calls Try.prog 22 #[.int .i64 P] w fun e w' => (∃ a' c', e = .returned (.tuple #[.agg (mcs P' r' (.slice a' n' c')), .int .i64 er]) ∧ Lie w' a' n' c' f') ∧ Below w.heap.size w w') := by
  by_cases hp : 33 ≤ P ∧ P ≤ 96
  · exact ⟨P, rg P.toNat, fun i => 32 + i, P.toNat - 32, 0, by omega, nNew_yes P hp.1 hp.2, zNew_yes P hp.1 hp.2⟩
  · exact ⟨0, fun _ => 0, fun _ => 0, 0, 3, by omega, fun w => (nNew_no P hp w).mono fun e w' h => ⟨⟨none, 0, h.1, lie_none _ _⟩, h.2⟩, fun w => (zNew_no P hp w).mono fun e w' h => ⟨⟨none, 0, h.1, lie_none _ _⟩, h.2⟩⟩
theorem take_both {T : Array Value} {P : Int} {r f : Nat → Int} {a : Option Addr} {n c : Nat} (h : Mp T P r a n c) (k : Int) : ∃ (P' : Int) (r' f' : Nat → Int) (n' : Nat) (one old : Int) (ok : Bool), n' ≤ 140737488355328 ∧
    (∀ w, Lie w a n c f → Calls Try.prog 26 #[.agg T, .int .i64 k] w fun e w' => (∃ a' c', e = .returned (.tuple #[.agg (mcs P' r' (.slice a' n' c')), .int .i64 one, .int .i64 old, .bool ok]) ∧ Lie w' a' n' c' f') ∧ Below w.heap.size w w') ∧
    (∀ w, Lie w a n c f → Calls Try.prog 27 #[.agg T, .int .i64 k] w fun e w' => (∃ a' c', e = .returned (.tuple #[.agg (mcs P' r' (.slice a' n' c')), .int .i64 one, .int .i64 old, .bool ok]) ∧ Lie w' a' n' c' f') ∧ Below w.heap.size w w') := by
  have few := h.few
  have no : (∀ w, Lie w a n c f → Calls Try.prog 26 #[.agg T, .int .i64 k] w fun e w' => e = .returned (.tuple #[.agg zm, .int .i64 0, .int .i64 0, .bool false]) ∧ Below w.heap.size w w') →
      (∀ w, Lie w a n c f → Calls Try.prog 27 #[.agg T, .int .i64 k] w fun e w' => e = .returned (.tuple #[.agg zm, .int .i64 0, .int .i64 0, .bool false]) ∧ Below w.heap.size w w') →
      ∃ (P' : Int) (r' f' : Nat → Int) (n' : Nat) (one old : Int) (ok : Bool), n' ≤ 140737488355328 ∧
    (∀ w, Lie w a n c f → Calls Try.prog 26 #[.agg T, .int .i64 k] w fun e w' => (∃ a' c', e = .returned (.tuple #[.agg (mcs P' r' (.slice a' n' c')), .int .i64 one, .int .i64 old, .bool ok]) ∧ Lie w' a' n' c' f') ∧ Below w.heap.size w w') ∧
    (∀ w, Lie w a n c f → Calls Try.prog 27 #[.agg T, .int .i64 k] w fun e w' => (∃ a' c', e = .returned (.tuple #[.agg (mcs P' r' (.slice a' n' c')), .int .i64 one, .int .i64 old, .bool ok]) ∧ Lie w' a' n' c' f') ∧ Below w.heap.size w w') := fun h1 h2 =>
    ⟨0, fun _ => 0, fun _ => 0, 0, 0, 0, false, by omega, fun w hL => (h1 w hL).mono fun e w' h => ⟨⟨none, 0, h.1, lie_none _ _⟩, h.2⟩, fun w hL => (h2 w hL).mono fun e w' h => ⟨⟨none, 0, h.1, lie_none _ _⟩, h.2⟩⟩
  by_cases hm : MayBe P n r f
  · by_cases hk : 1 ≤ k ∧ k < 32
    · by_cases hz : 0 < n
      · obtain ⟨j, rfl⟩ : ∃ j : Nat, k = j := ⟨k.toNat, by omega⟩
        exact ⟨P, up r j (f 0), tl f, n - 1, f 0, r j, true, by omega, fun w hL => nTake_yes T P r f a n c h.is hm h.p h.f h.rg j (by omega) (by omega) hz w hL, fun w hL => zTake_yes T P r f a n c h.is hm h.p h.f j (by omega) (by omega) hz w hL⟩
      · obtain rfl : n = 0 := by omega
        exact no (fun w hL => nTake_no3 T P r f a c h.is h.p h.f h.rg k hm hk w hL) (fun w hL => zTake_no2 T P r f a 0 c h.is h.p h.f k h.few hm rfl w hL)
    · refine no (fun w hL => nTake_no2 T P r f a n c h.is h.p h.f h.rg k hm hk w hL) (fun w hL => ?_)
      by_cases hz : 0 < n
      · by_cases h1 : k < 1
        · exact zTake_no3 T P r f a n c h.is h.p h.f k h.few hm hz h1 w hL
        · exact zTake_no4 T P r f a n c h.is h.p h.f k h.few hm hz h1 (by omega) w hL
      · obtain rfl : n = 0 := by omega
        exact zTake_no2 T P r f a 0 c h.is h.p h.f k h.few hm rfl w hL
  · exact no (fun w hL => nTake_no1 T P r f a n c h.is h.p h.f h.rg k hm h.few w hL) (fun w hL => zTake_no1 T P r f a n c h.is h.p h.f k h.few hm w hL)
theorem give_both {T : Array Value} {P : Int} {r f : Nat → Int} {a : Option Addr} {n c : Nat} (h : Mp T P r a n c) (x : Int) : ∃ (P' : Int) (r' f' : Nat → Int) (n' : Nat) (ok : Bool), n' ≤ 140737488355328 ∧
    (∀ w, Lie w a n c f → Calls Try.prog 28 #[.agg T, .int .i64 x] w fun e w' => (∃ a' c', e = .returned (.tuple #[.agg (mcs P' r' (.slice a' n' c')), .bool ok]) ∧ Lie w' a' n' c' f') ∧ Below w.heap.size w w') ∧
    (∀ w, Lie w a n c f → Calls Try.prog 29 #[.agg T, .int .i64 x] w fun e w' => (∃ a' c', e = .returned (.tuple #[.agg (mcs P' r' (.slice a' n' c')), .bool ok]) ∧ Lie w' a' n' c' f') ∧ Below w.heap.size w w') := by
  have no : (∀ w, Lie w a n c f → Calls Try.prog 28 #[.agg T, .int .i64 x] w fun e w' => e = .returned (.tuple #[.agg zm, .bool false]) ∧ Below w.heap.size w w') →
      (∀ w, Lie w a n c f → Calls Try.prog 29 #[.agg T, .int .i64 x] w fun e w' => e = .returned (.tuple #[.agg zm, .bool false]) ∧ Below w.heap.size w w') →
      ∃ (P' : Int) (r' f' : Nat → Int) (n' : Nat) (ok : Bool), n' ≤ 140737488355328 ∧
    (∀ w, Lie w a n c f → Calls Try.prog 28 #[.agg T, .int .i64 x] w fun e w' => (∃ a' c', e = .returned (.tuple #[.agg (mcs P' r' (.slice a' n' c')), .bool ok]) ∧ Lie w' a' n' c' f') ∧ Below w.heap.size w w') ∧
    (∀ w, Lie w a n c f → Calls Try.prog 29 #[.agg T, .int .i64 x] w fun e w' => (∃ a' c', e = .returned (.tuple #[.agg (mcs P' r' (.slice a' n' c')), .bool ok]) ∧ Lie w' a' n' c' f') ∧ Below w.heap.size w w') := fun h1 h2 =>
    ⟨0, fun _ => 0, fun _ => 0, 0, false, by omega, fun w hL => (h1 w hL).mono fun e w' h => ⟨⟨none, 0, h.1, lie_none _ _⟩, h.2⟩, fun w hL => (h2 w hL).mono fun e w' h => ⟨⟨none, 0, h.1, lie_none _ _⟩, h.2⟩⟩
  by_cases hm : MayBe P n r f
  · by_cases hx : Idle P n r f x
    · exact ⟨P, r, en f n x, n + 1, true, by have := hm.few; omega, fun w hL => nGive_yes T P r f a n c h.is hm h.p h.f h.rg x hx w hL, fun w hL => zGive_yes T P r f a n c h.is hm h.p h.f x hx w hL⟩
    · exact no (fun w hL => nGive_no2 T P r f a n c h.is h.p h.f h.rg x hm hx w hL) (fun w hL => zGive_no1 T P r f a n c h.is h.p h.f x h.few (fun h => hx h.2) w hL)
  · exact no (fun w hL => nGive_no1 T P r f a n c h.is h.p h.f h.rg x hm h.few w hL) (fun w hL => zGive_no1 T P r f a n c h.is h.p h.f x h.few (fun h => hm h.1) w hL)
theorem undo_both {T : Array Value} {P : Int} {r f : Nat → Int} {a : Option Addr} {n c : Nat} (h : Mp T P r a n c) (k x : Int) : ∃ (P' : Int) (r' f' : Nat → Int) (n' : Nat) (ok : Bool), n' ≤ 140737488355328 ∧
    (∀ w, Lie w a n c f → Calls Try.prog 30 #[.agg T, .int .i64 k, .int .i64 x] w fun e w' => (∃ a' c', e = .returned (.tuple #[.agg (mcs P' r' (.slice a' n' c')), .bool ok]) ∧ Lie w' a' n' c' f') ∧ Below w.heap.size w w') ∧
    (∀ w, Lie w a n c f → Calls Try.prog 31 #[.agg T, .int .i64 k, .int .i64 x] w fun e w' => (∃ a' c', e = .returned (.tuple #[.agg (mcs P' r' (.slice a' n' c')), .bool ok]) ∧ Lie w' a' n' c' f') ∧ Below w.heap.size w w') := by
  have no : (∀ w, Lie w a n c f → Calls Try.prog 30 #[.agg T, .int .i64 k, .int .i64 x] w fun e w' => e = .returned (.tuple #[.agg zm, .bool false]) ∧ Below w.heap.size w w') →
      (∀ w, Lie w a n c f → Calls Try.prog 31 #[.agg T, .int .i64 k, .int .i64 x] w fun e w' => e = .returned (.tuple #[.agg zm, .bool false]) ∧ Below w.heap.size w w') →
      ∃ (P' : Int) (r' f' : Nat → Int) (n' : Nat) (ok : Bool), n' ≤ 140737488355328 ∧
    (∀ w, Lie w a n c f → Calls Try.prog 30 #[.agg T, .int .i64 k, .int .i64 x] w fun e w' => (∃ a' c', e = .returned (.tuple #[.agg (mcs P' r' (.slice a' n' c')), .bool ok]) ∧ Lie w' a' n' c' f') ∧ Below w.heap.size w w') ∧
    (∀ w, Lie w a n c f → Calls Try.prog 31 #[.agg T, .int .i64 k, .int .i64 x] w fun e w' => (∃ a' c', e = .returned (.tuple #[.agg (mcs P' r' (.slice a' n' c')), .bool ok]) ∧ Lie w' a' n' c' f') ∧ Below w.heap.size w w') := fun h1 h2 =>
    ⟨0, fun _ => 0, fun _ => 0, 0, false, by omega, fun w hL => (h1 w hL).mono fun e w' h => ⟨⟨none, 0, h.1, lie_none _ _⟩, h.2⟩, fun w hL => (h2 w hL).mono fun e w' h => ⟨⟨none, 0, h.1, lie_none _ _⟩, h.2⟩⟩
  by_cases hm : MayBe P n r f
  · by_cases hk : 1 ≤ k ∧ k < 32
    · by_cases hx : Idle P n r f x
      · obtain ⟨j, rfl⟩ : ∃ j : Nat, k = j := ⟨k.toNat, by omega⟩
        exact ⟨P, up r j x, hd (r j) f, n + 1, true, by have := hm.few; omega, fun w hL => nUndo_yes T P r f a n c h.is hm h.p h.f h.rg j (by omega) (by omega) x hx w hL, fun w hL => zUndo_yes T P r f a n c h.is hm h.p h.f h.rg j (by omega) (by omega) x hx w hL⟩
      · exact no (fun w hL => nUndo_no3 T P r f a n c h.is h.p h.f h.rg k x hm hk hx w hL) (fun w hL => zUndo_no1 T P r f a n c h.is h.p h.f k x h.few (fun h => hx h.2) w hL)
    · refine no (fun w hL => nUndo_no2 T P r f a n c h.is h.p h.f h.rg k x hm hk w hL) (fun w hL => ?_)
      by_cases hx : Idle P n r f x
      · by_cases h1 : k < 1
        · exact zUndo_no2 T P r f a n c h.is h.p h.f k x h.few ⟨hm, hx⟩ h1 w hL
        · exact zUndo_no3 T P r f a n c h.is h.p h.f k x h.few ⟨hm, hx⟩ h1 (by omega) w hL
      · exact zUndo_no1 T P r f a n c h.is h.p h.f k x h.few (fun h => hx h.2) w hL
  · exact no (fun w hL => nUndo_no1 T P r f a n c h.is h.p h.f h.rg k x hm h.few w hL) (fun w hL => zUndo_no1 T P r f a n c h.is h.p h.f k x h.few (fun h => hm h.1) w hL)
end Go.Proofs.Ytpiohehijkpghab
