/- What the small functions of the document's reckoning of instructions come to. -/
import Derived.Test.YtpiohehijkpghaaDoorDecW
import Derived.Test.YtpiohehijkpghaaDoorRef1
namespace Go.Proofs.YtpiohehijkpghaaDoor
open Go.RowKit
open Hy
set_option linter.unusedVariables false

/-- A power of two, told as a letter. -/
theorem rPower_v (a P : Int) (n : Nat) (ha : Hid (a = (n : Int))) (hn : n ≤ 32) (hP : Hid (P = two n)) (w : World) :
    Calls Tryd.prog 43 #[.int .i64 a] w fun e w' => e = .returned (.int .i64 P) ∧ w' = w := by
  rw [ha.out, hP.out]
  exact rPower_any n hn w

theorem rCut_top (x a P q : Int) (n : Nat) (x0 : 0 ≤ x) (x1 : x ≤ 4294967295) (ha : Hid (a = (n : Int))) (hn : n ≤ 32) (hP : Hid (P = two n)) (hq : Hid (q = x / P)) (w : World) :
    Calls Tryd.prog 28 #[.int .u32 x, .int .i64 a, .int .i64 31] w fun e w' => e = .returned (.int .i64 q) ∧ w' = w := by
  have p0 : 0 < P := by rw [hP.out]; exact two_pos n
  have p1 : P ≤ 4294967296 := by rw [hP.out]; exact two_le n hn
  go_enter Tryd.func28, Tryd.ntmps28
  go_wp2_with (go_at_call 43; refine (rPower_v _ P n ha hn hP _).mono ?_; rintro e w' ⟨rfl, rfl⟩)
  go_ret
  exact ⟨ret_int hq.out.symm, rfl⟩

theorem rCut_mid (x a b P R q : Int) (n m : Nat) (x0 : 0 ≤ x) (x1 : x ≤ 4294967295) (a0 : 0 ≤ a) (a1 : a ≤ 31) (b0 : 0 ≤ b) (hb : b < 31) (ha : Hid (a = (n : Int))) (hn : n ≤ 32) (hP : Hid (P = two n)) (hm : Hid (b - a + 1 = (m : Int))) (hm2 : m ≤ 32) (hR : Hid (R = two m)) (hq : Hid (q = x / P % R)) (w : World) :
    Calls Tryd.prog 28 #[.int .u32 x, .int .i64 a, .int .i64 b] w fun e w' => e = .returned (.int .i64 q) ∧ w' = w := by
  have p0 : 0 < P := by rw [hP.out]; exact two_pos n
  have p1 : P ≤ 4294967296 := by rw [hP.out]; exact two_le n hn
  have r0 : 0 < R := by rw [hR.out]; exact two_pos m
  have r1 : R ≤ 4294967296 := by rw [hR.out]; exact two_le m hm2
  have hb31 : ¬ b = 31 := by omega
  have d0 : 0 ≤ x / P := Int.ediv_nonneg x0 (by omega)
  go_enter Tryd.func28, Tryd.ntmps28
  go_wp2_with fail
  refine (rPower_v _ P n ha hn hP _).mono ?_
  rintro e w' ⟨rfl, rfl⟩
  go_wp2_with fail
  refine (rPower_v _ R m hm hm2 hR _).mono ?_
  rintro e w' ⟨rfl, rfl⟩
  go_wp2_with fail
  go_ret
  exact ⟨ret_int hq.out.symm, rfl⟩

/-- A number of so many bits with its sign. -/
theorem rsigned_any (v k P q : Int) (n : Nat) (v0 : 0 ≤ v) (v1 : v < P + P) (k0 : 1 ≤ k) (k1 : k ≤ 32) (hn : n ≤ 31) (hk : Hid (k - 1 = (n : Int))) (hP : Hid (P = two n)) (hq : Hid (q = if v < P then v else v - 2 * P)) (w : World) :
    Calls Tryd.prog 30 #[.int .i64 v, .int .i64 k] w fun e w' => e = .returned (.int .i32 q) ∧ w' = w := by
  have p0 : 0 < P := by rw [hP.out]; exact two_pos n
  have p1 : P ≤ 2147483648 := by rw [hP.out]; have := two_mono (show n ≤ 31 from hn); have e : two 31 = 2147483648 := by decide
                                 omega
  by_cases h : P ≤ v
  · go_enter Tryd.func30, Tryd.ntmps30
    go_wp2_with (go_at_call 43; refine (rPower_v _ P n hk (by omega) hP _).mono ?_; rintro e w' ⟨rfl, rfl⟩)
    go_ret
    exact ⟨ret_int (by rw [hq.out, if_neg (by omega)]), rfl⟩
  · go_enter Tryd.func30, Tryd.ntmps30
    go_wp2_with (go_at_call 43; refine (rPower_v _ P n hk (by omega) hP _).mono ?_; rintro e w' ⟨rfl, rfl⟩)
    go_ret
    exact ⟨ret_int (by rw [hq.out, if_pos (by omega)]), rfl⟩
end Go.Proofs.YtpiohehijkpghaaDoor
namespace Go.Proofs.YtpiohehijkpghaaDoor
open Go.RowKit
open Hy
set_option linter.unusedVariables false

/-- The number in a cell. -/
def p64 (cs : Array Value) (j : Nat) : Int := match cs[j]? with
  | some (.int .i64 v) => v
  | _ => 0
/-- So many cells, each with a number. -/
def chk64 (cs : Array Value) : Nat → Bool
  | 0 => true
  | n + 1 => (match cs[n]? with
    | some (.int .i64 _) => true
    | _ => false) && chk64 cs n

theorem chk64_at (cs : Array Value) : ∀ n, chk64 cs n = true → ∀ j, j < n → cs[j]? = some (.int .i64 (p64 cs j))
  | 0, _, j, h => by omega
  | n + 1, hk, j, h => by
    simp only [chk64, Bool.and_eq_true] at hk
    by_cases e : j = n
    · subst e
      have h1 := hk.1
      unfold p64
      split at h1
      · rename_i v hv; rw [hv]
      · cases h1
    · exact chk64_at cs n hk.2 j (by omega)

/-- What is picked, from a place on, among so many. -/
def pk (n : Int) (A O : Nat → Int) : Nat → Nat → Int
  | _, 0 => -1
  | i, f + 1 => if A i = n then O i else pk n A O (i + 1) f

theorem pick_any (n : Int) (k : Nat) (hk : k ≤ 100) (A O : Nat → Int) (g1 g2 : Nat) (w : World)
    (ha : ∀ j, j < k → w.cell? ⟨g1, j, none⟩ = some (.int .i64 (A j))) (ho : ∀ j, j < k → w.cell? ⟨g2, j, none⟩ = some (.int .i64 (O j))) :
    Calls Tryd.prog 50 #[.int .i64 n, .slice (some ⟨g1, 0, none⟩) k k, .slice (some ⟨g2, 0, none⟩) k k] w fun e w' => e = .returned (.int .i64 (pk n A O 0 k)) ∧ w' = w := by
  go_enter Tryd.func50, Tryd.ntmps50
  go_wp2
  go_loop [7] (fun i => ∃ j : Nat, j ≤ k ∧ i = .int .i64 j ∧ pk n A O 0 k = pk n A O j (k - j)) (fun i => k - (intOf i).toNat)
  case atStart => exact ⟨0, Nat.zero_le _, rfl, rfl⟩
  case round =>
    obtain ⟨j, hj, rfl, hp⟩ := hrel
    have HP : Hid (pk n A O 0 k = pk n A O j (k - j)) := hp
    clear hp
    by_cases hlt : j < k
    · have a1 := ha j hlt
      have o1 := ho j hlt
      clear ha ho
      obtain ⟨a, hA⟩ : ∃ a, a = A j := ⟨_, rfl⟩
      obtain ⟨o, hO⟩ : ∃ o, o = O j := ⟨_, rfl⟩
      rw [← hA] at a1
      rw [← hO] at o1
      have HA : Hid (a = A j) := hA
      have HO : Hid (o = O j) := hO
      clear hA hO
      have HS : Hid (pk n A O 0 k = if A j = n then O j else pk n A O (j + 1) (k - (j + 1))) := by
        show _ = _
        rw [HP.out, show k - j = (k - (j + 1)) + 1 by omega, pk]
      clear HP
      by_cases he : a = n
      · go_wp2
        go_ret
        exact ⟨ret_int (by rw [HS.out, if_pos (HA.out ▸ he), HO.out]), rfl⟩
      · go_wp2
        go_round
        case rel => exact ⟨j + 1, by omega, by go_num, by rw [HS.out, if_neg (fun g => he (HA.out.trans g))]⟩
        case measure => simp [intOf]; omega
    · clear ha ho
      go_wp2
      go_ret
      exact ⟨ret_int (by rw [HP.out, show k - j = 0 by omega]; rfl), rfl⟩

/-- The same, of lists that were made for the call. -/
theorem pick_c (n q : Int) (A O : Array Value) (t1 t2 : TypeId) (k g1 g2 : Nat) (w : World) (h1 : g1 = w.heap.size) (h2 : g2 = w.heap.size + 1) (hk : k ≤ 100) (ca : chk64 A k = true) (co : chk64 O k = true)
    (hq : Hid (q = pk n (p64 A) (p64 O) 0 k)) :
    Calls Tryd.prog 50 #[.int .i64 n, .slice (some ⟨g1, 0, none⟩) k k, .slice (some ⟨g2, 0, none⟩) k k] ((w.alloc (.cells A t1)).alloc (.cells O t2)) fun e w' => e = .returned (.int .i64 q) ∧ Below w.heap.size w w' := by
  subst h1 h2
  rw [hq.out]
  refine (pick_any n k hk (p64 A) (p64 O) _ _ _ ?_ ?_).mono fun e w' ⟨he, hw⟩ => ⟨he, hw ▸ ((Below.refl _ _).alloc (Nat.le_refl _) _).alloc (by simp) _⟩
  · intro j hj
    rw [World.cell?_alloc_past _ _ _ (by simp), World.cell?_alloc_at _ _ _ _ rfl]
    exact chk64_at A k ca j hj
  · intro j hj
    rw [World.cell?_alloc_at _ _ _ _ (by simp)]
    exact chk64_at O k co j hj
end Go.Proofs.YtpiohehijkpghaaDoor
