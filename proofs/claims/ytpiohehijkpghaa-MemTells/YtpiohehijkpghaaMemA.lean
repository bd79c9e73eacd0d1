/- What the small functions of package mem, and of the document's reckoning of bytes, come to. -/
import Derived.Test.YtpiohehijkpghaaRows
import Derived.Test.YtpiohehijkpghaaDecX
import Derived.WalkKit
import Derived.WalkSpells
import Derived.WalkLawsBesides
import Derived.Laws.BitsAllLaws
import Derived.Laws.Bits64
import Derived.Below
namespace Go.Proofs.Ytpiohehijkpghaa
open Go.RowKit
open Hy
set_option linter.unusedVariables false

/-- How many bytes a load asks for; 0: it is none. -/
def ldn (op : Int) : Int := if op = 11 ∨ op = 14 then 1 else if op = 12 ∨ op = 15 then 2 else if op = 13 then 4 else 0
/-- How many bytes a store lays; 0: it is none. -/
def stn (op : Int) : Int := if op = 16 then 1 else if op = 17 then 2 else if op = 18 then 4 else 0

theorem ldn_cases (op : Int) : ldn op = 0 ∨ ldn op = 1 ∨ ldn op = 2 ∨ ldn op = 4 := by unfold ldn; split <;> (try split) <;> (try split) <;> omega
theorem stn_cases (op : Int) : stn op = 0 ∨ stn op = 1 ∨ stn op = 2 ∨ stn op = 4 := by unfold stn; split <;> (try split) <;> (try split) <;> omega

theorem loaded_any (op : Int) (w : World) :
    Calls Try.prog 33 #[.int .i64 op] w fun e w' => e = .returned (.int .u32 (ldn op)) ∧ w' = w := by
  go_enter Try.func33, Try.ntmps33
  go_wp2
  all_goals (go_ret; refine ⟨?_, rfl⟩; simp_all [ldn])

theorem stored_any (op : Int) (w : World) :
    Calls Try.prog 41 #[.int .i64 op] w fun e w' => e = .returned (.int .u32 (stn op)) ∧ w' = w := by
  go_enter Try.func41, Try.ntmps41
  go_wp2
  all_goals (go_ret; refine ⟨?_, rfl⟩; simp_all [stn])

theorem tSize_load (op : Int) (w : World) :
    Calls Try.prog 39 #[.int .i64 op, .bool false] w fun e w' => e = .returned (.int .i64 (ldn op)) ∧ w' = w := by
  go_enter Try.func39, Try.ntmps39
  go_wp2
  all_goals (go_ret; refine ⟨?_, rfl⟩; simp_all [ldn])

theorem tSize_store (op : Int) (w : World) :
    Calls Try.prog 39 #[.int .i64 op, .bool true] w fun e w' => e = .returned (.int .i64 (stn op)) ∧ w' = w := by
  go_enter Try.func39, Try.ntmps39
  go_wp2
  all_goals (go_ret; refine ⟨?_, rfl⟩; simp_all [stn])

theorem stands_any (p : Option Addr) (n c : Nat) (a m : Int) (hn : n ≤ 140737488355328) (a0 : 0 ≤ a) (a1 : a ≤ 4294967295) (hm : m = 0 ∨ m = 1 ∨ m = 2 ∨ m = 4) (w : World) :
    Calls Try.prog 34 #[.slice p n c, .int .u32 a, .int .u32 m] w fun e w' => e = .returned (.bool (decide (0 < m ∧ a % m = 0 ∧ a + m ≤ n))) ∧ w' = w := by
  rcases hm with rfl | rfl | rfl | rfl
  all_goals go_enter Try.func34, Try.ntmps34
  all_goals go_wp2
  all_goals (go_ret; refine ⟨?_, rfl⟩; simp; try omega)

theorem there_any (p : Option Addr) (n c : Nat) (a m : Int) (hn : n ≤ 140737488355328) (a0 : 0 ≤ a) (a1 : a ≤ 4294967295) (hm : m = 0 ∨ m = 1 ∨ m = 2 ∨ m = 4) (w : World) :
    Calls Try.prog 40 #[.slice p n c, .int .u32 a, .int .i64 m] w fun e w' => e = .returned (.bool (decide (0 < m ∧ a % m = 0 ∧ a + m ≤ n))) ∧ w' = w := by
  rcases hm with rfl | rfl | rfl | rfl
  all_goals go_enter Try.func40, Try.ntmps40
  all_goals go_wp2
  all_goals (go_ret; refine ⟨?_, rfl⟩; simp; try omega)
end Go.Proofs.Ytpiohehijkpghaa
