/- What the functions by which chapter 1 is said come to: each returns the number that the plain functions of the text Math give, and turns nothing of the world. -/
import Derived.Test.YtpiohehijkpghaaDoorWord
namespace Go.Proofs.YtpiohehijkpghaaDoor
open Go.RowKit
open Hy
set_option linter.unusedVariables false

theorem rSigned_any (a : Int) (a0 : 0 ≤ a) (a1 : a ≤ 4294967295) (w : World) :
    Calls Tryd.prog 29 #[.int .u32 a] w fun e w' => e = .returned (.int .i64 (sg a)) ∧ w' = w := by
  by_cases h : 2147483648 ≤ a
  · go_enter Tryd.func29, Tryd.ntmps29
    go_wp2
    go_ret
    exact ⟨ret_int (by unfold sg; rw [if_neg (by omega)]), rfl⟩
  · go_enter Tryd.func29, Tryd.ntmps29
    go_wp2
    go_ret
    exact ⟨ret_int (by unfold sg; rw [if_pos (by omega)]), rfl⟩

theorem rOf_any (n : Int) (w : World) :
    Calls Tryd.prog 38 #[.int .i64 n] w fun e w' => e = .returned (.int .u32 (n % 4294967296)) ∧ w' = w := by
  have hr : -4294967296 < n.tmod 4294967296 ∧ n.tmod 4294967296 < 4294967296 := ⟨Int.lt_tmod_of_pos n (by decide), Int.tmod_lt_of_pos n (by decide)⟩
  have he := of_eq n
  by_cases h : n.tmod 4294967296 < 0
  · rw [if_pos h] at he
    have H : Hid (n.tmod 4294967296 + 4294967296 = n % 4294967296) := he
    clear he
    go_enter Tryd.func38, Tryd.ntmps38
    go_wp2
    go_ret
    exact ⟨ret_int H.out, rfl⟩
  · rw [if_neg h] at he
    have H : Hid (n.tmod 4294967296 = n % 4294967296) := he
    clear he
    go_enter Tryd.func38, Tryd.ntmps38
    go_wp2
    go_ret
    exact ⟨ret_int H.out, rfl⟩

theorem rtruth_any (y : Bool) (w : World) :
    Calls Tryd.prog 59 #[.bool y] w fun e w' => e = .returned (.int .u32 (if y = true then 1 else 0)) ∧ w' = w := by
  cases y
  all_goals
    go_enter Tryd.func59, Tryd.ntmps59
    go_wp2
    go_ret
    exact ⟨rfl, rfl⟩

theorem rPower_any (n : Nat) (hn : n ≤ 32) (w : World) :
    Calls Tryd.prog 43 #[.int .i64 n] w fun e w' => e = .returned (.int .i64 (two n)) ∧ w' = w := by
  go_enter Tryd.func43, Tryd.ntmps43
  go_wp2
  go_loop [3, 4] (fun p i => ∃ k : Nat, k ≤ n ∧ i = .int .i64 k ∧ p = .int .i64 (two k)) (fun _ i => n - (intOf i).toNat)
  case atStart => exact ⟨0, Nat.zero_le _, rfl, rfl⟩
  case round =>
    obtain ⟨k, hk, rfl, rfl⟩ := hrel
    have t0 := two_pos k
    have t1 := two_le k (by omega)
    have HS : Hid (two (k + 1) = two k + two k) := two_succ k
    by_cases hlt : k < n
    · go_wp2
      go_round
      case rel => exact ⟨k + 1, by omega, by go_num, by rw [HS.out]⟩
      case measure => simp [intOf]; omega
    · go_wp2
      go_ret
      exact ⟨ret_int (by rw [show k = n by omega]), rfl⟩

theorem floor_num (a b : Int) (hb : 0 < b) (r : Int) (hr : r = a % b) : (a - r).tdiv b = a / b := by
  subst hr
  have h := Int.mul_ediv_add_emod a b
  have e : a - a % b = b * (a / b) := by omega
  rw [e, Int.mul_tdiv_cancel_left _ (by omega)]

theorem rest_pos (a b : Int) (hb : 0 < b) (h : a.tmod b < 0) : a.tmod b + b = a % b := by
  rw [Int.tmod_eq_emod] at h ⊢
  have h1 := Int.emod_nonneg a (b := b) (by omega)
  have h2 := Int.emod_lt_of_pos a hb
  split at h
  · omega
  · rename_i g; rw [if_neg g]; omega

theorem rest_nonneg (a b : Int) (hb : 0 < b) (h : ¬ a.tmod b < 0) : a.tmod b = a % b := by
  rw [Int.tmod_eq_emod] at h ⊢
  have h1 := Int.emod_nonneg a (b := b) (by omega)
  have h2 := Int.emod_lt_of_pos a hb
  split at h
  · rename_i g; rw [if_pos g]; omega
  · omega

theorem rfloor_any (a b : Int) (a0 : -9000000000000000000 ≤ a) (a1 : a ≤ 9000000000000000000) (b0 : 0 < b) (b1 : b ≤ 4294967296) (w : World) :
    Calls Tryd.prog 58 #[.int .i64 a, .int .i64 b] w fun e w' => e = .returned (.int .i64 (a / b)) ∧ w' = w := by
  have h1 := Int.emod_nonneg a (b := b) (by omega)
  have h2 := Int.emod_lt_of_pos a b0
  have hz : ¬ b = 0 := by omega
  have l0 : -4294967296 < a.tmod b := by have := Int.lt_tmod_of_pos a b0; omega
  have l1 : a.tmod b < 4294967296 := by have := Int.tmod_lt_of_pos a b0; omega
  by_cases h : a.tmod b < 0
  · have H : Hid (a.tmod b + b = a % b) := rest_pos a b b0 h
    have HF : Hid ((a - (a.tmod b + b)).tdiv b = a / b) := floor_num a b b0 _ H.out
    go_enter Tryd.func58, Tryd.ntmps58
    go_wp2
    go_ret
    exact ⟨ret_int HF.out, rfl⟩
  · have HF : Hid ((a - a.tmod b).tdiv b = a / b) := floor_num a b b0 _ (rest_nonneg a b b0 h)
    go_enter Tryd.func58, Tryd.ntmps58
    go_wp2
    go_ret
    exact ⟨ret_int HF.out, rfl⟩

theorem half (x k : Nat) : x / 2 ^ (k + 1) = x / 2 ^ k / 2 := by
  rw [Nat.pow_succ, Nat.div_div_eq_div_mul]

theorem bit_word (op : Int) (x y k : Nat) (p q : Bool) (hp : decide (x / 2 ^ k % 2 = 1) = p) (hq : decide (y / 2 ^ k % 2 = 1) = q) :
    ((natop op x y % 2 ^ (k + 1) : Nat) : Int) = ((natop op x y % 2 ^ k : Nat) : Int) + (if bitop op p q = true then two k else 0) := by
  rw [natop_round, hp, hq]

theorem bits_end (op : Int) (a b : Int) (a0 : 0 ≤ a) (a1 : a ≤ 4294967295) (b0 : 0 ≤ b) (b1 : b ≤ 4294967295) :
    ((natop op a.toNat b.toNat % 2 ^ 32 : Nat) : Int) % 4294967296 = ((natop op a.toNat b.toNat : Nat) : Int) := by
  have := natop_lt op a.toNat b.toNat 32 (by omega) (by omega)
  omega

theorem rbits_any (op : Int) (hop : op = 37 ∨ op = 36 ∨ op = 33) (a b : Int) (a0 : 0 ≤ a) (a1 : a ≤ 4294967295) (b0 : 0 ≤ b) (b1 : b ≤ 4294967295) (w : World) :
    Calls Tryd.prog 57 #[.int .i64 op, .int .u32 a, .int .u32 b] w fun e w' => e = .returned (.int .u32 (natop op a.toNat b.toNat : Nat)) ∧ w' = w := by
  have HE : Hid (((natop op a.toNat b.toNat % 2 ^ 32 : Nat) : Int) % 4294967296 = ((natop op a.toNat b.toNat : Nat) : Int)) := bits_end op a b a0 a1 b0 b1
  have HA : Hid (a = ((a.toNat / 2 ^ 0 : Nat) : Int)) := by show a = _; simp; omega
  have HB : Hid (b = ((b.toNat / 2 ^ 0 : Nat) : Int)) := by show b = _; simp; omega
  have hA : a.toNat < 4294967296 := by omega
  have hB : b.toNat < 4294967296 := by omega
  have HN : ∀ k, Hid (natop op a.toNat b.toNat % 2 ^ k < 4294967296) := fun k => by
    have h1 := natop_lt op a.toNat b.toNat 32 (by omega) (by omega)
    have h2 : natop op a.toNat b.toNat % 2 ^ k ≤ natop op a.toNat b.toNat := Nat.mod_le _ _
    show _ < _; omega
  go_enter Tryd.func57, Tryd.ntmps57
  go_wp2
  go_loop [7, 8, 9, 10] (fun x y n i => ∃ k : Nat, k ≤ 32 ∧ i = .int .i64 k ∧ x = .int .i64 ((a.toNat / 2 ^ k : Nat) : Int) ∧ y = .int .i64 ((b.toNat / 2 ^ k : Nat) : Int) ∧ n = .int .i64 ((natop op a.toNat b.toNat % 2 ^ k : Nat) : Int)) (fun _ _ _ i => 32 - (intOf i).toNat)
  case atStart => exact ⟨0, Nat.zero_le _, rfl, congrArg (Value.int .i64) HA.out, congrArg (Value.int .i64) HB.out, by rw [Nat.pow_zero, Nat.mod_one]; rfl⟩
  case round =>
    obtain ⟨k, hk, rfl, rfl, rfl, rfl⟩ := hrel
    by_cases hlt : k < 32
    · have HX : Hid (a.toNat / 2 ^ (k + 1) = a.toNat / 2 ^ k / 2) := half _ _
      have HY : Hid (b.toNat / 2 ^ (k + 1) = b.toNat / 2 ^ k / 2) := half _ _
      have HK : ∀ p q, Hid (decide (a.toNat / 2 ^ k % 2 = 1) = p → decide (b.toNat / 2 ^ k % 2 = 1) = q → ((natop op a.toNat b.toNat % 2 ^ (k + 1) : Nat) : Int) = ((natop op a.toNat b.toNat % 2 ^ k : Nat) : Int) + (if bitop op p q = true then two k else 0)) := fun p q => bit_word op a.toNat b.toNat k p q
      have hx : a.toNat / 2 ^ k < 4294967296 := by have := Nat.div_le_self a.toNat (2 ^ k); omega
      have hy : b.toNat / 2 ^ k < 4294967296 := by have := Nat.div_le_self b.toNat (2 ^ k); omega
      have hm := (HN k).out
      have ht := two_pos k
      have ht2 := two_le k hk
      clear HA HB HN HE
      generalize a.toNat / 2 ^ k = x at *
      generalize b.toNat / 2 ^ k = y at *
      generalize natop op a.toNat b.toNat % 2 ^ k = m at *
      by_cases hp : x % 2 = 1
      · have hp' : ((x : Int) % 2 == 1) = true := by rw [beq_iff_eq]; omega
        by_cases hq : y % 2 = 1
        · have hq' : ((y : Int) % 2 == 1) = true := by rw [beq_iff_eq]; omega
          have HF := HK true true
          rcases hop with rfl | rfl | rfl
          all_goals
            go_wp2_with (go_at_call 43; refine (rPower_any k hk _).mono ?_; rintro e w' ⟨rfl, rfl⟩)
            go_round
            case rel => exact ⟨k + 1, by omega, by go_num, by rw [HX.out]; go_num, by rw [HY.out]; go_num, by rw [HF.out (by simp [hp]) (by simp [hq])]; simp [bitop]⟩
            case measure => simp [intOf]; omega
        · have hq' : ((y : Int) % 2 == 1) = false := by rw [beq_eq_false_iff_ne]; omega
          have HF := HK true false
          rcases hop with rfl | rfl | rfl
          all_goals
            go_wp2_with (go_at_call 43; refine (rPower_any k hk _).mono ?_; rintro e w' ⟨rfl, rfl⟩)
            go_round
            case rel => exact ⟨k + 1, by omega, by go_num, by rw [HX.out]; go_num, by rw [HY.out]; go_num, by rw [HF.out (by simp [hp]) (by simp [hq])]; simp [bitop]⟩
            case measure => simp [intOf]; omega
      · have hp' : ((x : Int) % 2 == 1) = false := by rw [beq_eq_false_iff_ne]; omega
        by_cases hq : y % 2 = 1
        · have hq' : ((y : Int) % 2 == 1) = true := by rw [beq_iff_eq]; omega
          have HF := HK false true
          rcases hop with rfl | rfl | rfl
          all_goals
            go_wp2_with (go_at_call 43; refine (rPower_any k hk _).mono ?_; rintro e w' ⟨rfl, rfl⟩)
            go_round
            case rel => exact ⟨k + 1, by omega, by go_num, by rw [HX.out]; go_num, by rw [HY.out]; go_num, by rw [HF.out (by simp [hp]) (by simp [hq])]; simp [bitop]⟩
            case measure => simp [intOf]; omega
        · have hq' : ((y : Int) % 2 == 1) = false := by rw [beq_eq_false_iff_ne]; omega
          have HF := HK false false
          rcases hop with rfl | rfl | rfl
          all_goals
            go_wp2_with (go_at_call 43; refine (rPower_any k hk _).mono ?_; rintro e w' ⟨rfl, rfl⟩)
            go_round
            case rel => exact ⟨k + 1, by omega, by go_num, by rw [HX.out]; go_num, by rw [HY.out]; go_num, by rw [HF.out (by simp [hp]) (by simp [hq])]; simp [bitop]⟩
            case measure => simp [intOf]; omega
    · obtain rfl : k = 32 := by omega
      clear HN HA HB
      generalize natop op a.toNat b.toNat % 2 ^ 32 = m at *
      go_wp2_with (go_at_call 38; refine (rOf_any _ _).mono ?_; rintro e w' ⟨rfl, rfl⟩)
      go_ret
      exact ⟨ret_int HE.out, rfl⟩

theorem rupper_any (a b : Int) (a0 : -2147483648 ≤ a) (a1 : a ≤ 4294967295) (b0 : 0 ≤ b) (b1 : b ≤ 4294967295) (w : World) :
    Calls Tryd.prog 60 #[.int .i64 a, .int .i64 b] w fun e w' => e = .returned (.int .u32 (a * b / 4294967296 % 4294967296)) ∧ w' = w := by
  have hl := prod_range a (b % 65536) 4294967295 65535 (by omega) (by omega) (by omega) (by omega)
  have hh := prod_range a (b / 65536) 4294967295 65535 (by omega) (by omega) (by omega) (by omega)
  have HU : Hid ((a * (b / 65536) + a * (b % 65536) / 65536) / 65536 % 4294967296 = a * b / 4294967296 % 4294967296) := by
    show _ = _
    rw [upper_eq, show b / 65536 * 65536 + b % 65536 = b by omega]
  have hs : -300000000000000 ≤ a * (b / 65536) + a * (b % 65536) / 65536 ∧ a * (b / 65536) + a * (b % 65536) / 65536 ≤ 300000000000000 := by omega
  go_enter Tryd.func60, Tryd.ntmps60
  go_wp2_with (first | (go_at_call 58; refine (rfloor_any _ _ ?_ ?_ ?_ ?_ _).mono ?_; (iterate 4 omega); rintro e w' ⟨rfl, rfl⟩) | (go_at_call 38; refine (rOf_any _ _).mono ?_; rintro e w' ⟨rfl, rfl⟩))
  go_ret
  exact ⟨ret_int HU.out, rfl⟩

theorem pow_word (w : World) (n : Nat) (m : Int) (hm : m = n) (hn : n ≤ 32) :
    Calls Tryd.prog 43 #[.int .i64 m] w fun e w' => e = .returned (.int .i64 (two n)) ∧ w' = w := by
  subst hm; exact rPower_any n hn w

theorem ralu28 (a b : Int) (a0 : 0 ≤ a) (a1 : a ≤ 4294967295) (b0 : 0 ≤ b) (b1 : b ≤ 4294967295) (w : World) :
    Calls Tryd.prog 44 #[.int .i64 28, .int .u32 a, .int .u32 b] w fun e w' => e = .returned (.int .u32 (alu 28 a b)) ∧ w' = w := by
  have ha := sg_range a a0 a1
  have hb := sg_range b b0 b1
  go_enter Tryd.func44, Tryd.ntmps44
  go_wp2_with (first | (go_at_call 29; refine (rSigned_any _ ?_ ?_ _).mono ?_; (iterate 2 omega); rintro e w' ⟨rfl, rfl⟩) | (go_at_call 38; refine (rOf_any _ _).mono ?_; rintro e w' ⟨rfl, rfl⟩))
  go_ret
  exact ⟨rfl, rfl⟩

theorem ralu29 (a b : Int) (a0 : 0 ≤ a) (a1 : a ≤ 4294967295) (b0 : 0 ≤ b) (b1 : b ≤ 4294967295) (w : World) :
    Calls Tryd.prog 44 #[.int .i64 29, .int .u32 a, .int .u32 b] w fun e w' => e = .returned (.int .u32 (alu 29 a b)) ∧ w' = w := by
  have ha := sg_range a a0 a1
  have hb := sg_range b b0 b1
  go_enter Tryd.func44, Tryd.ntmps44
  go_wp2_with (first | (go_at_call 29; refine (rSigned_any _ ?_ ?_ _).mono ?_; (iterate 2 omega); rintro e w' ⟨rfl, rfl⟩) | (go_at_call 38; refine (rOf_any _ _).mono ?_; rintro e w' ⟨rfl, rfl⟩))
  go_ret
  exact ⟨rfl, rfl⟩

theorem ralu33 (a b : Int) (a0 : 0 ≤ a) (a1 : a ≤ 4294967295) (b0 : 0 ≤ b) (b1 : b ≤ 4294967295) (w : World) :
    Calls Tryd.prog 44 #[.int .i64 33, .int .u32 a, .int .u32 b] w fun e w' => e = .returned (.int .u32 (alu 33 a b)) ∧ w' = w := by
  have ha := sg_range a a0 a1
  have hb := sg_range b b0 b1
  go_enter Tryd.func44, Tryd.ntmps44
  go_wp2_with (first | (go_at_call 29; refine (rSigned_any _ ?_ ?_ _).mono ?_; (iterate 2 omega); rintro e w' ⟨rfl, rfl⟩) | (go_at_call 57; refine (rbits_any 33 (by decide) a b a0 a1 b0 b1 _).mono ?_; rintro e w' ⟨rfl, rfl⟩))
  go_ret
  exact ⟨rfl, rfl⟩

theorem ralu36 (a b : Int) (a0 : 0 ≤ a) (a1 : a ≤ 4294967295) (b0 : 0 ≤ b) (b1 : b ≤ 4294967295) (w : World) :
    Calls Tryd.prog 44 #[.int .i64 36, .int .u32 a, .int .u32 b] w fun e w' => e = .returned (.int .u32 (alu 36 a b)) ∧ w' = w := by
  have ha := sg_range a a0 a1
  have hb := sg_range b b0 b1
  go_enter Tryd.func44, Tryd.ntmps44
  go_wp2_with (first | (go_at_call 29; refine (rSigned_any _ ?_ ?_ _).mono ?_; (iterate 2 omega); rintro e w' ⟨rfl, rfl⟩) | (go_at_call 57; refine (rbits_any 36 (by decide) a b a0 a1 b0 b1 _).mono ?_; rintro e w' ⟨rfl, rfl⟩))
  go_ret
  exact ⟨rfl, rfl⟩

theorem ralu37 (a b : Int) (a0 : 0 ≤ a) (a1 : a ≤ 4294967295) (b0 : 0 ≤ b) (b1 : b ≤ 4294967295) (w : World) :
    Calls Tryd.prog 44 #[.int .i64 37, .int .u32 a, .int .u32 b] w fun e w' => e = .returned (.int .u32 (alu 37 a b)) ∧ w' = w := by
  have ha := sg_range a a0 a1
  have hb := sg_range b b0 b1
  go_enter Tryd.func44, Tryd.ntmps44
  go_wp2_with (first | (go_at_call 29; refine (rSigned_any _ ?_ ?_ _).mono ?_; (iterate 2 omega); rintro e w' ⟨rfl, rfl⟩) | (go_at_call 57; refine (rbits_any 37 (by decide) a b a0 a1 b0 b1 _).mono ?_; rintro e w' ⟨rfl, rfl⟩))
  go_ret
  exact ⟨rfl, rfl⟩

end Go.Proofs.YtpiohehijkpghaaDoor
