/- One of a list, by a number that must be among others. -/
import Derived.Test.YteadfdcnpfkmkaaDoorRefP
namespace Go.Proofs.YteadfdcnpfkmkaaDoor
open Go.RowKit
open Hy
set_option linter.unusedVariables false

/-- The number in a cell. -/
def p64 (cs : Array Value) (j : Nat) : Int := match cs[j]? with
  | some (.int .i64 v) => v
  | _ => 0
/-- So many cells, each with a number. -/
def chk64 (cs : Array Value) : Nat → Bool
  | 0 => true
  | n + 1 => (match cs[n]? with
    | some (.int .i64 _) => true
    | _ => false) && chk64 cs n

theorem chk64_at (cs : Array Value) : ∀ n, chk64 cs n = true → ∀ j, j < n → cs[j]? = some (.int .i64 (p64 cs j))
  | 0, _, j, h => by omega
  | n + 1, hk, j, h => by
    simp only [chk64, Bool.and_eq_true] at hk
    by_cases e : j = n
    · subst e
      have h1 := hk.1
      unfold p64
      split at h1
      · rename_i v hv; rw [hv]
      · cases h1
    · exact chk64_at cs n hk.2 j (by omega)

/-- What is picked, from a place on, among so many. -/
def pk (n : Int) (A O : Nat → Int) : Nat → Nat → Int
  | _, 0 => -1
  | i, f + 1 => if A i = n then O i else pk n A O (i + 1) f

theorem pick_any (n : Int) (k : Nat) (hk : k ≤ 100) (A O : Nat → Int) (g1 g2 : Nat) (w : World)
    (ha : ∀ j, j < k → w.cell? ⟨g1, j, none⟩ = some (.int .i64 (A j))) (ho : ∀ j, j < k → w.cell? ⟨g2, j, none⟩ = some (.int .i64 (O j))) :
    Calls Tryd.prog 41 #[.int .i64 n, .slice (some ⟨g1, 0, none⟩) k k, .slice (some ⟨g2, 0, none⟩) k k] w fun e w' => e = .returned (.int .i64 (pk n A O 0 k)) ∧ w' = w := by
  go_enter Tryd.func41, Tryd.ntmps41
  go_wp2
  go_loop [7] (fun i => ∃ j : Nat, j ≤ k ∧ i = .int .i64 j ∧ pk n A O 0 k = pk n A O j (k - j)) (fun i => k - (intOf i).toNat)
  case atStart => exact ⟨0, Nat.zero_le _, rfl, rfl⟩
  case round =>
    obtain ⟨j, hj, rfl, hp⟩ := hrel
    have HP : Hid (pk n A O 0 k = pk n A O j (k - j)) := hp
    clear hp
    by_cases hlt : j < k
    · have a1 := ha j hlt
      have o1 := ho j hlt
      clear ha ho
      obtain ⟨a, hA⟩ : ∃ a, a = A j := ⟨_, rfl⟩
      obtain ⟨o, hO⟩ : ∃ o, o = O j := ⟨_, rfl⟩
      rw [← hA] at a1
      rw [← hO] at o1
      have HA : Hid (a = A j) := hA
      have HO : Hid (o = O j) := hO
      clear hA hO
      have HS : Hid (pk n A O 0 k = if A j = n then O j else pk n A O (j + 1) (k - (j + 1))) := by
        show _ = _
        rw [HP.out, show k - j = (k - (j + 1)) + 1 by omega, pk]
      clear HP
      by_cases he : a = n
      · go_wp2
        go_ret
        exact ⟨ret_int (by rw [HS.out, if_pos (HA.out ▸ he), HO.out]), rfl⟩
      · go_wp2
        go_round
        case rel => exact ⟨j + 1, by omega, by go_num, by rw [HS.out, if_neg (fun g => he (HA.out.trans g))]⟩
        case measure => simp [intOf]; omega
    · clear ha ho
      go_wp2
      go_ret
      exact ⟨ret_int (by rw [HP.out, show k - j = 0 by omega]; rfl), rfl⟩

/-- The same, of lists that were made for the call. -/
theorem pick_c (n q : Int) (A O : Array Value) (t1 t2 : TypeId) (k g1 g2 : Nat) (w : World) (h1 : g1 = w.heap.size) (h2 : g2 = w.heap.size + 1) (hk : k ≤ 100) (ca : chk64 A k = true) (co : chk64 O k = true)
    (hq : Hid (q = pk n (p64 A) (p64 O) 0 k)) :
    Calls Tryd.prog 41 #[.int .i64 n, .slice (some ⟨g1, 0, none⟩) k k, .slice (some ⟨g2, 0, none⟩) k k] ((w.alloc (.cells A t1)).alloc (.cells O t2)) fun e w' => e = .returned (.int .i64 q) ∧ Below w.heap.size w w' := by
  subst h1 h2
  rw [hq.out]
  refine (pick_any n k hk (p64 A) (p64 O) _ _ _ ?_ ?_).mono fun e w' ⟨he, hw⟩ => ⟨he, hw ▸ ((Below.refl _ _).alloc (Nat.le_refl _) _).alloc (by simp) _⟩
  · intro j hj
    rw [World.cell?_alloc_past _ _ _ (by simp), World.cell?_alloc_at _ _ _ _ rfl]
    exact chk64_at A k ca j hj
  · intro j hj
    rw [World.cell?_alloc_at _ _ _ _ (by simp)]
    exact chk64_at O k co j hj
end Go.Proofs.YteadfdcnpfkmkaaDoor
