/- OrderWrongs walked. -/
import Derived.Test.YtdnhbgobjoegnabOrdF
namespace Go.Proofs.Ytdnhbgobjoegnab
open Go.RowKit
open Hy
set_option linter.unusedVariables false
/-- Program and document alike. -/
theorem wrong_both (a : Option Addr) (n c : Nat) (seq : Int) (l : List Ac) (hok : Hid (∀ q ∈ l, q.Ok)) (hn : n ≤ 140737488355328) (w0 : World) (hL0 : Hid (LC w0 a n c 7 (acs l))) : ∃ (y : Int) (f : Bool),
    (∀ w, Hid (LC w a n c 7 (acs l)) → Calls Try.prog 45 #[.slice a n c, .int .i64 seq] w fun e w' => e = .returned (.tuple #[.int .i64 y, .bool f]) ∧ Below w.heap.size w w') ∧
    (∀ w, Hid (LC w a n c 7 (acs l)) → Calls Try.prog 46 #[.slice a n c, .int .i64 seq] w fun e w' => e = .returned (.tuple #[.int .i64 y, .bool f]) ∧ Below w.heap.size w w') := by
  have hlen : l.length = n := by have := hL0.out.len; rw [acs_len] at this; omega
  obtain ⟨m, hm⟩ := firstA_ex (sto1 seq) l
  by_cases h : m < n
  · obtain ⟨s, hs⟩ := atA_ex (l := l) (k := m) (by omega)
    exact ⟨_, _, fun w hL => uWrong_yes a n c seq l hok m hm h s hs _ _ ⟨rfl, rfl⟩ hn w hL, fun w hL => yWrong_yes a n c seq l hok m hm h s hs _ _ ⟨rfl, rfl⟩ hn w hL⟩
  · obtain rfl : m = n := by have := hm.le; omega
    exact ⟨_, _, fun w hL => uWrong_no a m c seq l hm hn w hL, fun w hL => yWrong_no a m c seq l hm hn w hL⟩
set_option maxRecDepth 20000 in
theorem wrongs (a : Option Addr) (n c : Nat) (seq : Int) (l : List Ac) (hok : ∀ q ∈ l, q.Ok) (hn : n ≤ 140737488355328) (w : World) (hL : LC w a n c 7 (acs l)) :
    Calls Try.prog 11 #[.slice a n c, .int .i64 seq] w fun e w' => e = .returned (.bool true) ∧ Below w.heap.size w w' := by
  obtain ⟨y, f, C1, C2⟩ := wrong_both a n c seq l hok hn w hL
  have HL : Hid (LC w a n c 7 (acs l)) := hL
  clear hL
  go_enter Try.func11, Try.ntmps11
  go_wp2_with fail
  refine (C1 _ HL).mono ?_
  rintro e W1 ⟨rfl, hk⟩
  have H1 : Hid (Below w.heap.size w W1) := hk
  clear hk C1
  go_wp2_with fail
  refine (C2 _ (HL.out.below (Nat.le_refl _) H1.out)).mono ?_
  rintro e W2 ⟨rfl, hk⟩
  have H2 : Hid (Below w.heap.size w W2) := H1.out.trans (hk.mono H1.out.size)
  clear hk C2
  go_wp2_with fail
  go_ret
  exact ⟨rfl, H2.out⟩
end Go.Proofs.Ytdnhbgobjoegnab
