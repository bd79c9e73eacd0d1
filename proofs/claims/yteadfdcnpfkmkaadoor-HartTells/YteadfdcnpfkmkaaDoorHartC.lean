/- What the program's small functions of chapter 4 come to. -/
import Derived.Test.YteadfdcnpfkmkaaDoorHartB
import Derived.Test.YteadfdcnpfkmkaaDoorDecWr
import Derived.Test.YteadfdcnpfkmkaaDoorMemS
import Derived.Laws.DeepBits32
namespace Go.Proofs.YteadfdcnpfkmkaaDoor
open Go.RowKit
open Hy
set_option linter.unusedVariables false

theorem hMay_any (H : Array Value) (z0 st ca : Int) (h0 : H[0]? = some (.int .u32 z0)) (h33 : H[33]? = some (.int .i64 st)) (h34 : H[34]? = some (.int .i64 ca)) (w : World) :
    Calls Tryd.prog 12 #[.agg H] w fun e w' => e = .returned (.bool (z0 == 0 && (((st == 0 || st == 1) && ca == 0) || (st == 2 && decide (1 ≤ ca) && decide (ca ≤ 6))))) ∧ Below w.heap.size w w' := by
  go_enter Tryd.func12, Tryd.ntmps12
  go_wp2
  all_goals (go_ret; refine ⟨?_, (Below.refl _ _).alloc (Nat.le_refl _) _⟩)
  all_goals (simp_all; try omega)

theorem qMayH_any (H : Array Value) (z0 st ca : Int) (h0 : H[0]? = some (.int .u32 z0)) (h33 : H[33]? = some (.int .i64 st)) (h34 : H[34]? = some (.int .i64 ca)) (w : World) :
    Calls Tryd.prog 13 #[.agg H] w fun e w' => e = .returned (.bool (z0 == 0 && (((st == 0 || st == 1) && ca == 0) || (st == 2 && decide (1 ≤ ca) && decide (ca ≤ 6))))) ∧ Below w.heap.size w w' := by
  go_enter Tryd.func13, Tryd.ntmps13
  go_wp2
  all_goals (go_ret; refine ⟨?_, (Below.refl _ _).alloc (Nat.le_refl _) _⟩)
  all_goals (simp_all; try omega)

theorem htrap_any (pc k : Int) (w : World) :
    Calls Tryd.prog 44 #[.int .u32 pc, .int .i64 k] w fun e w' => e = .returned (cv pc pc 2 k 0 0 0 0 0 false 0) ∧ Below w.heap.size w w' := by
  go_enter Tryd.func44, Tryd.ntmps44
  go_wp2
  exact bodyPost_ret (v := cv pc pc 2 k 0 0 0 0 0 false 0) (results_cell_row Tryd.results44 _ _ _ 38 _ (0, 0) _ rfl (heap_alloc_new _ _) Tryd.underlying38 rfl size_commit) rfl ⟨rfl, (Below.refl _ _).alloc (Nat.le_refl _) _⟩

theorem honward_any (pc : Int) (p0 : 0 ≤ pc) (p1 : pc ≤ 4294967295) (w : World) :
    Calls Tryd.prog 47 #[.int .u32 pc] w fun e w' => e = .returned (cv pc ((pc + 4) % 4294967296) 0 0 0 0 0 0 0 false 0) ∧ Below w.heap.size w w' := by
  go_enter Tryd.func47, Tryd.ntmps47
  go_wp2
  exact bodyPost_ret (v := cv pc ((pc + 4) % 4294967296) 0 0 0 0 0 0 0 false 0) (results_cell_row Tryd.results47 _ _ _ 38 _ (0, 0) _ rfl (heap_alloc_new _ _) Tryd.underlying38 rfl size_commit) rfl ⟨rfl, (Below.refl _ _).alloc (Nat.le_refl _) _⟩

theorem hgive_no (pc next v : Int) (w : World) :
    Calls Tryd.prog 49 #[cv pc next 0 0 0 0 0 0 0 false 0, .int .i64 0, .int .u32 v] w fun e w' => e = .returned (cv pc next 0 0 0 0 0 0 0 false 0) ∧ Below w.heap.size w w' := by
  go_enter Tryd.func49, Tryd.ntmps49
  go_wp2
  exact bodyPost_ret (v := cv pc next 0 0 0 0 0 0 0 false 0) (results_cell_row Tryd.results49 _ _ _ 38 _ (0, 0) _ rfl (heap_alloc2_new _ _ _) Tryd.underlying38 rfl size_commit) rfl ⟨rfl, ((Below.refl _ _).alloc (Nat.le_refl _) _).alloc (by simp) _⟩

theorem hgive_yes (pc next v : Int) (rd : Nat) (hz : ((rd : Int) != 0) = true) (w : World) :
    Calls Tryd.prog 49 #[cv pc next 0 0 0 0 0 0 0 false 0, .int .i64 rd, .int .u32 v] w fun e w' => e = .returned (cv pc next 0 0 rd v 0 0 0 false 0) ∧ Below w.heap.size w w' := by
  go_enter Tryd.func49, Tryd.ntmps49
  go_wp2
  exact bodyPost_ret (v := cv pc next 0 0 rd v 0 0 0 false 0) (results_cell_row Tryd.results49 _ _ _ 38 _ (0, 0) _ rfl (heap_alloc2_new _ _ _) Tryd.underlying38 rfl size_commit) rfl ⟨rfl, ((Below.refl _ _).alloc (Nat.le_refl _) _).alloc (by simp) _⟩

/-- The program's table of operations lies in memory. -/
def itab : List Int := [0, 0, 0, 0, 0, 0, 0, 0, 0, 0, 0, 0, 0, 0, 0, 0, 0, 0, 0, 28, 31, 32, 33, 36, 37, 30, 34, 35, 0, 0, 0, 0, 0, 0, 0, 0, 0, 0, 0, 0, 0, 0, 0, 0, 0, 0, 0, 0, 0]
def Tab2 (w : World) : Prop := ∀ i, i < 49 → w.cell? ⟨1, i, none⟩ = some (.int .i64 (itab.getD i 0))
theorem Tab2.size {w : World} (h : Tab2 w) : 1 < w.heap.size := World.block_lt_of_cell? _ _ (h 0 (by omega))
theorem Tab2.below {w w' : World} {B : Nat} (h : Tab2 w) (hb : Below B w w') (hB : 1 < B) : Tab2 w' :=
  fun i hi => (hb.cell (p := ⟨1, i, none⟩) hB).trans (h i hi)
theorem Tab2.alloc {w : World} (h : Tab2 w) (o : Obj) : Tab2 (w.alloc o) :=
  h.below ((Below.refl w.heap.size w).alloc (Nat.le_refl _) o) h.size

theorem andNot1 (a : Int) (a0 : 0 ≤ a) (a1 : a ≤ 4294967295) : bits .andNot .u32 a 1 = a - a % 2 := by
  rw [u32_andNot a 1 a0 (by omega) (by omega) (by omega)]
  rw [show (4294967295 - (1 : Int).toNat) = 4294967294 from rfl, and_even _ (by omega)]
  omega

/-- The Imm as a word. -/
abbrev wd (I : Int) : Int := I % 4294967296

theorem hnext_jal (rd s1 s2 I pc A B : Int) (p0 : 0 ≤ pc) (p1 : pc ≤ 4294967295) (w : World) :
    Calls Tryd.prog 50 #[iv 3 rd s1 s2 I, .int .u32 pc, .int .u32 A, .int .u32 B] w fun e w' => e = .returned (.int .u32 ((pc + wd I) % 4294967296)) ∧ Below w.heap.size w w' := by
  go_enter Tryd.func50, Tryd.ntmps50
  go_wp2
  go_ret
  exact ⟨rfl, (Below.refl _ _).alloc (Nat.le_refl _) _⟩

theorem hnext_go (op rd s1 s2 I pc A B : Int) (p0 : 0 ≤ pc) (p1 : pc ≤ 4294967295) (hq : (op == 3) = false)
    (q : ∀ W, Calls Tryd.prog 63 #[.int .i64 op, .int .u32 A, .int .u32 B] W fun e w' => e = .returned (.bool true) ∧ w' = W) (w : World) :
    Calls Tryd.prog 50 #[iv op rd s1 s2 I, .int .u32 pc, .int .u32 A, .int .u32 B] w fun e w' => e = .returned (.int .u32 ((pc + wd I) % 4294967296)) ∧ Below w.heap.size w w' := by
  go_enter Tryd.func50, Tryd.ntmps50
  go_wp2_with fail
  refine (q _).mono ?_
  rintro e w' ⟨rfl, rfl⟩
  go_wp2
  go_ret
  exact ⟨rfl, (Below.refl _ _).alloc (Nat.le_refl _) _⟩

theorem hnext_on (op rd s1 s2 I pc A B : Int) (p0 : 0 ≤ pc) (p1 : pc ≤ 4294967295) (hq : (op == 3) = false) (hr : (op == 4) = false)
    (q : ∀ W, Calls Tryd.prog 63 #[.int .i64 op, .int .u32 A, .int .u32 B] W fun e w' => e = .returned (.bool false) ∧ w' = W) (w : World) :
    Calls Tryd.prog 50 #[iv op rd s1 s2 I, .int .u32 pc, .int .u32 A, .int .u32 B] w fun e w' => e = .returned (.int .u32 ((pc + 4) % 4294967296)) ∧ Below w.heap.size w w' := by
  go_enter Tryd.func50, Tryd.ntmps50
  go_wp2_with fail
  refine (q _).mono ?_
  rintro e w' ⟨rfl, rfl⟩
  go_wp2
  go_ret
  exact ⟨rfl, (Below.refl _ _).alloc (Nat.le_refl _) _⟩

theorem hnext_jalr (rd s1 s2 I pc A B : Int) (p0 : 0 ≤ pc) (p1 : pc ≤ 4294967295) (a0 : 0 ≤ A) (a1 : A ≤ 4294967295)
    (q : ∀ W, Calls Tryd.prog 63 #[.int .i64 4, .int .u32 A, .int .u32 B] W fun e w' => e = .returned (.bool false) ∧ w' = W) (w : World) :
    Calls Tryd.prog 50 #[iv 4 rd s1 s2 I, .int .u32 pc, .int .u32 A, .int .u32 B] w fun e w' => e = .returned (.int .u32 ((A + wd I) % 4294967296 - (A + wd I) % 4294967296 % 2)) ∧ Below w.heap.size w w' := by
  have hb := andNot1 ((A + wd I) % 4294967296) (by omega) (by omega)
  go_enter Tryd.func50, Tryd.ntmps50
  go_wp2_with fail
  refine (q _).mono ?_
  rintro e w' ⟨rfl, rfl⟩
  go_wp2
  go_ret
  exact ⟨ret_int (by rw [show (A + I) % 4294967296 = (A + wd I) % 4294967296 by unfold wd; omega]; exact hb), (Below.refl _ _).alloc (Nat.le_refl _) _⟩

theorem hreckon_lui (rd s1 s2 I pc A B : Int) (w : World) :
    Calls Tryd.prog 51 #[iv 1 rd s1 s2 I, .int .u32 pc, .int .u32 A, .int .u32 B] w fun e w' => e = .returned (.int .u32 (wd I)) ∧ Below w.heap.size w w' := by
  go_enter Tryd.func51, Tryd.ntmps51
  go_wp2
  go_ret
  exact ⟨rfl, (Below.refl _ _).alloc (Nat.le_refl _) _⟩

theorem hreckon_auipc (rd s1 s2 I pc A B : Int) (p0 : 0 ≤ pc) (p1 : pc ≤ 4294967295) (w : World) :
    Calls Tryd.prog 51 #[iv 2 rd s1 s2 I, .int .u32 pc, .int .u32 A, .int .u32 B] w fun e w' => e = .returned (.int .u32 ((pc + wd I) % 4294967296)) ∧ Below w.heap.size w w' := by
  go_enter Tryd.func51, Tryd.ntmps51
  go_wp2
  go_ret
  exact ⟨rfl, (Below.refl _ _).alloc (Nat.le_refl _) _⟩

theorem hreckon_jal (rd s1 s2 I pc A B : Int) (p0 : 0 ≤ pc) (p1 : pc ≤ 4294967295) (w : World) :
    Calls Tryd.prog 51 #[iv 3 rd s1 s2 I, .int .u32 pc, .int .u32 A, .int .u32 B] w fun e w' => e = .returned (.int .u32 ((pc + 4) % 4294967296)) ∧ Below w.heap.size w w' := by
  go_enter Tryd.func51, Tryd.ntmps51
  go_wp2
  go_ret
  exact ⟨rfl, (Below.refl _ _).alloc (Nat.le_refl _) _⟩

theorem hreckon_jalr (rd s1 s2 I pc A B : Int) (p0 : 0 ≤ pc) (p1 : pc ≤ 4294967295) (w : World) :
    Calls Tryd.prog 51 #[iv 4 rd s1 s2 I, .int .u32 pc, .int .u32 A, .int .u32 B] w fun e w' => e = .returned (.int .u32 ((pc + 4) % 4294967296)) ∧ Below w.heap.size w w' := by
  go_enter Tryd.func51, Tryd.ntmps51
  go_wp2
  go_ret
  exact ⟨rfl, (Below.refl _ _).alloc (Nat.le_refl _) _⟩

theorem hreckon_imm (m : Nat) (rd s1 s2 I pc A B O V : Int) (m0 : 5 ≤ m) (m1 : m < 49) (ht : itab.getD m 0 = O) (hO : (O != 0) = true)
    (q : ∀ W, Calls Tryd.prog 64 #[.int .i64 O, .int .u32 A, .int .u32 (wd I)] W fun e w' => e = .returned (.int .u32 V) ∧ w' = W) (w : World) (hT : Tab2 w) :
    Calls Tryd.prog 51 #[iv m rd s1 s2 I, .int .u32 pc, .int .u32 A, .int .u32 B] w fun e w' => e = .returned (.int .u32 V) ∧ Below w.heap.size w w' := by
  have k := hT m m1
  rw [ht] at k
  have hs := hT.size
  have n1 : ((m : Int) == 1) = false := beq_eq_false_iff_ne.2 (by omega)
  have n2 : ((m : Int) == 2) = false := beq_eq_false_iff_ne.2 (by omega)
  have n3 : ((m : Int) == 3) = false := beq_eq_false_iff_ne.2 (by omega)
  have n4 : ((m : Int) == 4) = false := beq_eq_false_iff_ne.2 (by omega)
  clear hT ht
  go_enter Tryd.func51, Tryd.ntmps51
  go_wp2_with fail
  refine (q _).mono ?_
  rintro e w' ⟨rfl, rfl⟩
  go_wp2
  go_ret
  exact ⟨rfl, (Below.refl _ _).alloc (Nat.le_refl _) _⟩

theorem hreckon_reg (m : Nat) (rd s1 s2 I pc A B V : Int) (m0 : 5 ≤ m) (m1 : m < 49) (ht : itab.getD m 0 = 0)
    (q : ∀ W, Calls Tryd.prog 64 #[.int .i64 m, .int .u32 A, .int .u32 B] W fun e w' => e = .returned (.int .u32 V) ∧ w' = W) (w : World) (hT : Tab2 w) :
    Calls Tryd.prog 51 #[iv m rd s1 s2 I, .int .u32 pc, .int .u32 A, .int .u32 B] w fun e w' => e = .returned (.int .u32 V) ∧ Below w.heap.size w w' := by
  have k := hT m m1
  rw [ht] at k
  have hs := hT.size
  have n1 : ((m : Int) == 1) = false := beq_eq_false_iff_ne.2 (by omega)
  have n2 : ((m : Int) == 2) = false := beq_eq_false_iff_ne.2 (by omega)
  have n3 : ((m : Int) == 3) = false := beq_eq_false_iff_ne.2 (by omega)
  have n4 : ((m : Int) == 4) = false := beq_eq_false_iff_ne.2 (by omega)
  clear hT ht
  go_enter Tryd.func51, Tryd.ntmps51
  go_wp2_with fail
  refine (q _).mono ?_
  rintro e w' ⟨rfl, rfl⟩
  go_wp2
  go_ret
  exact ⟨rfl, (Below.refl _ _).alloc (Nat.le_refl _) _⟩
end Go.Proofs.YteadfdcnpfkmkaaDoor
