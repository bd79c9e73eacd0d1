/- What the program's load, store and call come to. -/
import Derived.Test.YtpiohehijkpghaaDoorHartB
import Derived.Deep.RegionHeld3
import Derived.Test.YtpiohehijkpghaaDoorMemL
import Derived.Deep.Cut
namespace Go.Proofs.YtpiohehijkpghaaDoor
open Go.RowKit
open Hy
set_option linter.unusedVariables false
set_option linter.unusedSimpArgs false

theorem bcell' {B : Nat} {w w' : World} (h : Below B w w') (b j : Nat) (hb : b < B) : w'.cell? ⟨b, j, none⟩ = w.cell? ⟨b, j, none⟩ := h.cell hb

theorem bfro' {B : Nat} {w w' : World} (h : Below B w w') (b j : Nat) (hb : b < B) : w'.frozen? ⟨b, j, none⟩ = w.frozen? ⟨b, j, none⟩ := h.frozen hb

/-- The cells of a commit's box, one by one. -/
theorem cells11 {w : World} {b : Nat} {t : TypeId} {c0 c1 c2 c3 c4 c5 c6 c7 c8 c9 c10 : Value} (h : w.heap[b]? = some (.cells #[c0, c1, c2, c3, c4, c5, c6, c7, c8, c9, c10] t (0, 0))) :
    w.cell? ⟨b, 0, none⟩ = some c0 ∧ w.cell? ⟨b, 1, none⟩ = some c1 ∧ w.cell? ⟨b, 2, none⟩ = some c2 ∧ w.cell? ⟨b, 3, none⟩ = some c3 ∧ w.cell? ⟨b, 4, none⟩ = some c4 ∧ w.cell? ⟨b, 5, none⟩ = some c5 ∧ w.cell? ⟨b, 6, none⟩ = some c6 ∧ w.cell? ⟨b, 7, none⟩ = some c7 ∧ w.cell? ⟨b, 8, none⟩ = some c8 ∧ w.cell? ⟨b, 9, none⟩ = some c9 ∧ w.cell? ⟨b, 10, none⟩ = some c10 ∧ (∀ j, w.frozen? ⟨b, j, none⟩ = false) :=
  ⟨(cell_of_row _ _ 0 _ _ _ h).trans rfl, (cell_of_row _ _ 1 _ _ _ h).trans rfl, (cell_of_row _ _ 2 _ _ _ h).trans rfl, (cell_of_row _ _ 3 _ _ _ h).trans rfl, (cell_of_row _ _ 4 _ _ _ h).trans rfl, (cell_of_row _ _ 5 _ _ _ h).trans rfl, (cell_of_row _ _ 6 _ _ _ h).trans rfl, (cell_of_row _ _ 7 _ _ _ h).trans rfl, (cell_of_row _ _ 8 _ _ _ h).trans rfl, (cell_of_row _ _ 9 _ _ _ h).trans rfl, (cell_of_row _ _ 10 _ _ _ h).trans rfl, fun j => frozen_of_row _ _ j _ _ h⟩

theorem and_byte (x k : Nat) : x &&& (255 * 2 ^ k) = (x / 2 ^ k % 256) * 2 ^ k := by
  apply Nat.eq_of_testBit_eq
  intro i
  rw [Nat.mul_comm 255, Nat.mul_comm (x / 2 ^ k % 256), Nat.testBit_and, Nat.testBit_two_pow_mul, Nat.testBit_two_pow_mul]
  by_cases h : k ≤ i
  · simp only [h, decide_true, Bool.true_and]
    rw [show (255 : Nat) = 2 ^ 8 - 1 from rfl, Nat.testBit_two_pow_sub_one, show (256 : Nat) = 2 ^ 8 from rfl, Nat.testBit_mod_two_pow, Nat.testBit_div_two_pow, Nat.sub_add_cancel h, Bool.and_comm]
  · simp [h]

theorem and_byte_i (B P : Int) (k : Nat) (hk : k ≤ 24) (hP : P = ((2 ^ k : Nat) : Int)) (b0 : 0 ≤ B) (b1 : B ≤ 4294967295) : bits .and .u32 B (255 * P) = B / P % 256 * P := by
  have hle : 2 ^ k ≤ 2 ^ 24 := Nat.pow_le_pow_right (by omega) hk
  have hab := and_byte B.toNat k
  generalize 2 ^ k = q at hle hP hab
  subst hP
  rw [u32_and _ _ b0 (by omega) (by omega) (by omega), show (255 * (q : Int)).toNat = 255 * q by omega, hab]
  obtain ⟨x, rfl⟩ := Int.eq_ofNat_of_zero_le b0
  simp

theorem low_step (B T P Q : Int) (k : Nat) (hk : k ≤ 24) (hP : P = ((2 ^ k : Nat) : Int)) (hQ : Q = P * 256) (b0 : 0 ≤ B) (b1 : B ≤ 4294967295) (hT : T = B % P) :
    bits .or .u32 T (bits .and .u32 B (255 * P)) = B % Q := by
  have hle : 2 ^ k ≤ 2 ^ 24 := Nat.pow_le_pow_right (by omega) hk
  have hp : 0 < 2 ^ k := Nat.pos_of_ne_zero (by simp)
  have hP0 : 0 < P := by omega
  have t0 : 0 ≤ T := by rw [hT]; exact Int.emod_nonneg _ (by omega)
  have t1 : T < P := by rw [hT]; exact Int.emod_lt_of_pos _ hP0
  rw [and_byte_i B P k hk hP b0 b1]
  have d0 : 0 ≤ B / P % 256 := by omega
  have d1 : B / P % 256 ≤ 255 := by omega
  have dm : B / P % 256 * P ≤ 255 * P := Int.mul_le_mul_of_nonneg_right d1 (by omega)
  have dn : 0 ≤ B / P % 256 * P := Int.mul_nonneg d0 (by omega)
  rw [or_add k P T _ hP (by omega) t0 t1 dn (by omega) (Int.mul_emod_left _ _), hT, hQ]
  have e1 := Int.emod_def B (P * 256)
  have e2 := Int.emod_def B P
  have e3 := Int.emod_def (B / P) 256
  have e4 : B / (P * 256) = B / P / 256 := (Int.ediv_ediv_of_nonneg (by omega)).symm
  rw [e1, e2, e3, e4, Int.sub_mul, Int.mul_assoc P 256, Int.mul_comm (256 * (B / P / 256)) P, Int.mul_comm (B / P) P]
  omega

set_option maxRecDepth 20000 in
set_option maxHeartbeats 1000000 in
theorem lowest_any (B : Int) (m : Nat) (hm : m = 1 ∨ m = 2 ∨ m = 4) (b0 : 0 ≤ B) (b1 : B ≤ 4294967295) (w : World) :
    Calls Tryd.prog 72 #[.int .u32 B, .int .u32 m] w fun e w' => e = .returned (.int .u32 (B % p256 m)) ∧ w' = w := by
  go_enter Tryd.func72, Tryd.ntmps72
  go_wp2
  go_loop [5, 6, 8] (fun t i k => ∃ j : Nat, j ≤ m ∧ k = .int .u32 j ∧ t = .int .u32 (B % p256 j)) (fun _ _ k => m - (intOf k).toNat)
  case atStart => exact ⟨0, by omega, rfl, int_eq (by rw [show p256 0 = 1 from rfl]; omega)⟩
  case round =>
    obtain ⟨j, hj, rfl, rfl⟩ := hrel
    obtain ⟨T, hT⟩ : ∃ T, T = B % p256 j := ⟨_, rfl⟩
    have HT : Hid (T = B % p256 j) := hT
    rw [← hT]
    clear hT
    by_cases hlt : j < m
    · rcases (by omega : j = 0 ∨ j = 1 ∨ j = 2 ∨ j = 3) with rfl | rfl | rfl | rfl
      · go_wp2
        go_round
        case rel => exact ⟨1, by omega, by go_num, int_eq (low_step B T 1 256 0 (by omega) rfl rfl b0 b1 HT.out)⟩
        case measure => simp [intOf]; omega
      · go_wp2
        go_round
        case rel => exact ⟨2, by omega, by go_num, int_eq (low_step B T 256 65536 8 (by omega) rfl rfl b0 b1 HT.out)⟩
        case measure => simp [intOf]; omega
      · go_wp2
        go_round
        case rel => exact ⟨3, by omega, by go_num, int_eq (low_step B T 65536 16777216 16 (by omega) rfl rfl b0 b1 HT.out)⟩
        case measure => simp [intOf]; omega
      · go_wp2
        go_round
        case rel => exact ⟨4, by omega, by go_num, int_eq (low_step B T 16777216 4294967296 24 (by omega) rfl rfl b0 b1 HT.out)⟩
        case measure => simp [intOf]; omega
    · obtain rfl : j = m := by omega
      go_wp2
      go_ret
      exact ⟨congrArg Ending.returned (int_eq HT.out), rfl⟩

set_option maxRecDepth 20000 in
set_option maxHeartbeats 1000000 in
theorem hLoaded_no (op rd s1 s2 I pc V : Int) (w : World) :
    Calls Tryd.prog 64 #[iv op rd s1 s2 I, .int .u32 pc, .int .u32 V, .bool false] w fun e w' => e = .returned (cv pc pc 2 3 0 0 0 0 0 false 0) ∧ Below w.heap.size w w' := by
  go_enter Tryd.func64, Tryd.ntmps64
  go_wp2_with fail
  refine (htrap_any pc 3 _).mono ?_
  rintro e w2 ⟨rfl, hk⟩
  have hs := hk.size
  simp at hs
  have hr := (hk.block (w.heap.size + 1) (by simp)).trans (heap_alloc2_new _ _ _)
  go_wp2_with (refine wpList_store_row rfl 38 _ _ rfl _ _ rfl rfl 38 _ hr size_commit rfl (ones_ccs _ _ _ _ _ _ _ _ _ _ _) ?_)
  exact bodyPost_ret (v := cv pc pc 2 3 0 0 0 0 0 false 0) (results_cell_row Tryd.results64 _ _ _ 38 _ (0, 0) _ rfl (setRow_heap _ _ _ _ _ _ hr) Tryd.underlying38 rfl size_commit) rfl ⟨rfl, below_row ((((Below.refl _ _).alloc (Nat.le_refl _) _).alloc (by simp) _).trans (hk.mono (by simp; omega))) (by simp) _⟩

theorem below_first {N : Nat} {W w2 : World} (hk : Below W.drew.heap.size W.drew w2) (h : N ≤ W.heap.size) : Below N W w2 := ((Below.refl _ W).drew).trans (hk.mono h)
theorem below_next {N : Nat} {W w2 w3 : World} (h2 : Below N W w2) (hk : Below w2.heap.size w2 w3) (h : N ≤ W.heap.size) : Below N W w3 := h2.trans (hk.mono (Nat.le_trans h h2.size))
theorem below_row_at {N : Nat} {W w2 : World} {b : Nat} {o : Obj} (h2 : Below N W w2) (hb : b < N) (h : W.heap[b]? = some o) : w2.heap[b]? = some o := (h2.block b hb).trans h
theorem below_cell_at {N : Nat} {W w2 : World} {b j : Nat} {v : Value} (h2 : Below N W w2) (hb : b < N) (h : W.cell? ⟨b, j, none⟩ = some v) : w2.cell? ⟨b, j, none⟩ = some v := (h2.cell (p := ⟨b, j, none⟩) hb).trans h

set_option maxRecDepth 20000 in
set_option maxHeartbeats 1000000 in
theorem hLoaded_yes (op I pc V NX : Int) (rd s1 s2 : Nat) (w : World)
    (CN : ∀ W, Calls Tryd.prog 66 #[.int .u32 pc] W fun e w' => e = .returned (cv pc NX 0 0 0 0 0 0 0 false 0) ∧ Below W.heap.size W w')
    (r v : Int) (CG : ∀ W, Calls Tryd.prog 68 #[cv pc NX 0 0 0 0 0 0 0 false 0, .int .i64 rd, .int .u32 V] W fun e w' => e = .returned (cv pc NX 0 0 r v 0 0 0 false 0) ∧ Below W.heap.size W w') :
    Calls Tryd.prog 64 #[iv op rd s1 s2 I, .int .u32 pc, .int .u32 V, .bool true] w fun e w' => e = .returned (cv pc NX 0 0 r v 0 0 0 false 0) ∧ Below w.heap.size w w' := by
  go_enter Tryd.func64, Tryd.ntmps64
  go_wp2_with fail
  obtain ⟨W, hW⟩ : ∃ W : World, W = (w.alloc (.cells #[.int .i64 op, .int .i64 rd, .int .i64 s1, .int .i64 s2, .int .i32 I] 24)).alloc (.cells (ccs 0 0 0 0 0 0 0 0 0 false 0) 38) := ⟨_, rfl⟩
  have r24 : W.heap[w.heap.size]? = some (.cells #[.int .i64 op, .int .i64 rd, .int .i64 s1, .int .i64 s2, .int .i32 I] 24 (0, 0)) := by rw [hW]; exact heap_alloc2_old _ _ _
  have r38 : W.heap[w.heap.size + 1]? = some (.cells (ccs 0 0 0 0 0 0 0 0 0 false 0) 38 (0, 0)) := by rw [hW]; exact heap_alloc2_new _ _ _
  have hsz : w.heap.size + 2 ≤ W.heap.size := by rw [hW]; simp
  have hb : Below w.heap.size w W := by rw [hW]; exact ((Below.refl _ _).alloc (Nat.le_refl _) _).alloc (by simp) _
  have y1 := (cell_of_row W w.heap.size 1 _ _ _ r24).trans rfl
  have R38 : Hid (W.heap[w.heap.size + 1]? = some (.cells (ccs 0 0 0 0 0 0 0 0 0 false 0) 38 (0, 0))) := r38
  rw [← hW]
  clear hW r24 r38
  have hl : w.heap.size + 1 < w.heap.size + 2 := by omega
  have hl0 : w.heap.size < w.heap.size + 2 := by omega
  refine wp_region_held_drew (S := fun w' => Below (w.heap.size + 1) W w') (by kernel_rfl) ((Below.refl _ _).drew) (fun hH => ?_)
  refine wpAnyH_take (i := 0) (v := .int .u32 pc) rfl (by kernel_rfl) (by kernel_rfl) (by kernel_rfl) (fun _ _ _ h => h) (Or.inl ⟨by rfl, by intro w hSw; go_simp⟩) hH ?_
  try simp only [Act.put, List.setIfInBounds_toArray, List.set_cons_zero, List.set_cons_succ]
  refine wpAnyH_take (i := 2) (v := .pointer (some ⟨w.heap.size, 1, none⟩)) rfl (by kernel_rfl) (by kernel_rfl) (by kernel_rfl) (fun _ _ _ h => h) (Or.inl ⟨by rfl, by intro w hSw; go_simp⟩) hH ?_
  try simp only [Act.put, List.setIfInBounds_toArray, List.set_cons_zero, List.set_cons_succ]
  refine wpAnyH_take (i := 3) (v := .int .i64 rd) rfl (by kernel_rfl) (by kernel_rfl) (by kernel_rfl) (fun _ _ _ h => h) (Or.inl ⟨by rfl, by intro w hSw; have hc := below_cell_at hSw (Nat.lt_succ_self _) y1; go_simp⟩) hH ?_
  try simp only [Act.put, List.setIfInBounds_toArray, List.set_cons_zero, List.set_cons_succ]
  refine wpAnyH_take (i := 4) (v := .int .u32 V) rfl (by kernel_rfl) (by kernel_rfl) (by kernel_rfl) (fun _ _ _ h => h) (Or.inl ⟨by rfl, by intro w hSw; go_simp⟩) hH ?_
  try simp only [Act.put, List.setIfInBounds_toArray, List.set_cons_zero, List.set_cons_succ]
  refine wpAnyH_ready (rs := [1]) (by kernel_rfl) (by simp) ?_
  refine AllReadyH.cons rfl (fun K hK => ?_) AllReadyH.nil
  go_simp
  refine (CN _).mono ?_
  rintro e w2 ⟨rfl, hk⟩
  have hB2 : Below (w.heap.size + 2) W w2 := below_first hk hsz
  go_wp2_with fail
  refine hK.out _ _ (hB2.mono (by omega)) (fun hH => ?_)
  clear hK K
  try simp only [Act.put, List.setIfInBounds_toArray, List.set_cons_zero, List.set_cons_succ]
  refine wpAnyH_ready (rs := [5]) (by kernel_rfl) (by simp) ?_
  refine AllReadyH.cons rfl (fun K hK => ?_) AllReadyH.nil
  go_simp
  refine (CG _).mono ?_
  rintro e w3 ⟨rfl, hk3⟩
  have hB3 : Below (w.heap.size + 2) W w3 := below_next hB2 hk3 hsz
  go_wp2_with fail
  refine hK.out _ _ (hB3.mono (by omega)) (fun hH => ?_)
  clear hK K
  try simp only [Act.put, List.setIfInBounds_toArray, List.set_cons_zero, List.set_cons_succ]
  refine wpAnyH_ready (rs := [6]) (by kernel_rfl) (by simp) ?_
  refine AllReadyH.cons rfl (fun K hK => ?_) AllReadyH.nil
  rw [if_pos (by rfl)]
  refine wp_store_row 38 _ _ rfl _ _ rfl rfl 38 _ (below_row_at hB3 hl R38.out) size_commit rfl (ones_ccs _ _ _ _ _ _ _ _ _ _ _) ?_
  refine hK.out _ _ (below_row (hB3.mono (by omega)) (Nat.le_refl _) _) (fun hH => ?_)
  clear hK K
  try simp only [Act.put, List.setIfInBounds_toArray, List.set_cons_zero, List.set_cons_succ]
  refine wpAnyH_done (by kernel_rfl) ?_ _
  go_wp2_with fail
  exact bodyPost_ret (v := cv pc NX 0 0 r v 0 0 0 false 0) (results_cell_row Tryd.results64 _ _ _ 38 _ (0, 0) _ rfl (setRow_heap _ _ _ _ _ _ (below_row_at hB3 hl R38.out)) Tryd.underlying38 rfl size_commit) rfl ⟨rfl, below_row (hb.trans (hB3.mono (by omega))) (by omega) _⟩
end Go.Proofs.YtpiohehijkpghaaDoor
namespace Go.Proofs.YtpiohehijkpghaaDoor
open Go.RowKit
open Hy
set_option linter.unusedVariables false
set_option linter.unusedSimpArgs false

set_option maxRecDepth 20000 in
set_option maxHeartbeats 1000000 in
theorem hstore_no (op rd s1 s2 I pc A B : Int) (p : Option Addr) (n c : Nat) (a0 : 0 ≤ A) (a1 : A ≤ 4294967295) (w : World)
    (CM : ∀ W, Calls Tryd.prog 71 #[.slice p n c, .int .i64 op, .int .u32 ((A + I) % 4294967296)] W fun e w' => e = .returned (.int .u32 0) ∧ w' = W) :
    Calls Tryd.prog 65 #[iv op rd s1 s2 I, .int .u32 pc, .int .u32 A, .int .u32 B, .slice p n c] w fun e w' => e = .returned (cv pc pc 2 4 0 0 0 0 0 false 0) ∧ Below w.heap.size w w' := by
  go_enter Tryd.func65, Tryd.ntmps65
  go_wp2_with fail
  refine (CM _).mono ?_
  rintro e w' ⟨rfl, rfl⟩
  go_wp2_with fail
  refine (htrap_any pc 4 _).mono ?_
  rintro e w2 ⟨rfl, hk⟩
  have hs := hk.size
  simp at hs
  have hr := (hk.block (w.heap.size + 1) (by simp)).trans (heap_alloc2_new _ _ _)
  go_wp2_with (refine wpList_store_row rfl 38 _ _ rfl _ _ rfl rfl 38 _ hr size_commit rfl (ones_ccs _ _ _ _ _ _ _ _ _ _ _) ?_)
  exact bodyPost_ret (v := cv pc pc 2 4 0 0 0 0 0 false 0) (results_cell_row Tryd.results65 _ _ _ 38 _ (0, 0) _ rfl (setRow_heap _ _ _ _ _ _ hr) Tryd.underlying38 rfl size_commit) rfl ⟨rfl, below_row ((((Below.refl _ _).alloc (Nat.le_refl _) _).alloc (by simp) _).trans (hk.mono (by simp; omega))) (by simp) _⟩

set_option maxRecDepth 20000 in
set_option maxHeartbeats 1000000 in
theorem hstore_yes (op rd s1 s2 I pc A B NX L : Int) (m : Nat) (hm : m = 1 ∨ m = 2 ∨ m = 4) (p : Option Addr) (n c : Nat) (a0 : 0 ≤ A) (a1 : A ≤ 4294967295) (w : World)
    (CM : ∀ W, Calls Tryd.prog 71 #[.slice p n c, .int .i64 op, .int .u32 ((A + I) % 4294967296)] W fun e w' => e = .returned (.int .u32 m) ∧ w' = W)
    (CN : ∀ W, Calls Tryd.prog 66 #[.int .u32 pc] W fun e w' => e = .returned (cv pc NX 0 0 0 0 0 0 0 false 0) ∧ Below W.heap.size W w')
    (CW : ∀ W, Calls Tryd.prog 72 #[.int .u32 B, .int .u32 m] W fun e w' => e = .returned (.int .u32 L) ∧ w' = W) :
    Calls Tryd.prog 65 #[iv op rd s1 s2 I, .int .u32 pc, .int .u32 A, .int .u32 B, .slice p n c] w fun e w' => e = .returned (cv pc NX 0 0 0 0 ((A + I) % 4294967296) m L false 0) ∧ Below w.heap.size w w' := by
  have hz : ((m : Int) == 0) = false := beq_eq_false_iff_ne.2 (by omega)
  have hm1 : (m : Int) ≤ 4 := by omega
  go_enter Tryd.func65, Tryd.ntmps65
  go_wp2_with fail
  refine (CM _).mono ?_
  rintro e w' ⟨rfl, rfl⟩
  go_wp2_with fail
  refine (CN _).mono ?_
  rintro e w2 ⟨rfl, hk⟩
  have hs := hk.size
  simp at hs
  have hr := (hk.block (w.heap.size + 1) (by simp)).trans (heap_alloc2_new _ _ _)
  have hb : Below w.heap.size w w2 := (((Below.refl _ _).alloc (Nat.le_refl _) _).alloc (by simp) _).trans (hk.mono (by simp; omega))
  have HR : Hid (w2.heap[w.heap.size + 1]? = some (.cells (ccs 0 0 0 0 0 0 0 0 0 false 0) 38 (0, 0))) := hr
  have hs' : w.heap.size + 1 < w2.heap.size := by omega
  clear hr hk
  go_wp2_with fail
  refine (CW _).mono ?_
  rintro e w' ⟨rfl, rfl⟩
  go_wp2_with (first | (refine wpList_load_row rfl 38 _ rfl _ rfl 38 _ (0, 0) _ (heap_alloc_new _ _) Tryd.underlying38 rfl size_commit ?_) | (refine wpList_store_row rfl 38 _ _ rfl _ _ rfl rfl 38 (ccs 0 0 0 0 0 0 0 0 0 false 0) ((Below.heap_alloc _ _ _ hs').trans HR.out) size_commit rfl (ones_ccs _ _ _ _ _ _ _ _ _ _ _) ?_))
  exact bodyPost_ret (v := cv pc NX 0 0 0 0 ((A + I) % 4294967296) m L false 0) (results_cell_row Tryd.results65 _ _ _ 38 _ (0, 0) _ rfl (setRow_heap _ _ _ _ _ _ ((Below.heap_alloc _ _ _ hs').trans HR.out)) Tryd.underlying38 rfl size_commit) rfl ⟨rfl, below_row (hb.alloc (by omega) _) (by omega) _⟩

set_option maxRecDepth 20000 in
set_option maxHeartbeats 1000000 in
theorem hcall_1 (pc T10 NX : Int) (w : World)
    (CN : ∀ W, Calls Tryd.prog 66 #[.int .u32 pc] W fun e w' => e = .returned (cv pc NX 0 0 0 0 0 0 0 false 0) ∧ Below W.heap.size W w') :
    Calls Tryd.prog 67 #[.int .u32 pc, .int .u32 1, .int .u32 T10] w fun e w' => e = .returned (cv pc NX 0 0 0 0 0 0 0 true T10) ∧ Below w.heap.size w w' := by
  go_enter Tryd.func67, Tryd.ntmps67
  go_wp2_with fail
  refine (CN _).mono ?_
  rintro e w2 ⟨rfl, hk⟩
  have hs := hk.size
  simp at hs
  have hr := (hk.block w.heap.size (by simp)).trans (heap_alloc_new _ _)
  have hb : Below w.heap.size w w2 := ((Below.refl _ _).alloc (Nat.le_refl _) _).trans (hk.mono (by simp))
  have HR : Hid (w2.heap[w.heap.size]? = some (.cells (ccs 0 0 0 0 0 0 0 0 0 false 0) 38 (0, 0))) := hr
  have hs' : w.heap.size < w2.heap.size := by omega
  clear hr hk
  go_wp2_with (first | (refine wpList_load_row rfl 38 _ rfl _ rfl 38 _ (0, 0) _ (heap_alloc_new _ _) Tryd.underlying38 rfl size_commit ?_) | (refine wpList_store_row rfl 38 _ _ rfl _ _ rfl rfl 38 (ccs 0 0 0 0 0 0 0 0 0 false 0) ((Below.heap_alloc _ _ _ hs').trans HR.out) size_commit rfl (ones_ccs _ _ _ _ _ _ _ _ _ _ _) ?_))
  exact bodyPost_ret (v := cv pc NX 0 0 0 0 0 0 0 true T10) (results_cell_row Tryd.results67 _ _ _ 38 _ (0, 0) _ rfl (setRow_heap _ _ _ _ _ _ ((Below.heap_alloc _ _ _ hs').trans HR.out)) Tryd.underlying38 rfl size_commit) rfl ⟨rfl, below_row (hb.alloc (by omega) _) (by omega) _⟩

set_option maxRecDepth 20000 in
set_option maxHeartbeats 1000000 in
theorem hcall_0 (pc B : Int) (w : World) :
    Calls Tryd.prog 67 #[.int .u32 pc, .int .u32 0, .int .u32 B] w fun e w' => e = .returned (cv pc pc 1 0 0 0 0 0 0 false 0) ∧ Below w.heap.size w w' := by
  go_enter Tryd.func67, Tryd.ntmps67
  go_wp2_with fail
  exact bodyPost_ret (v := cv pc pc 1 0 0 0 0 0 0 false 0) (results_cell_row Tryd.results67 _ _ _ 38 _ (0, 0) _ rfl (heap_alloc_new _ _) Tryd.underlying38 rfl size_commit) rfl ⟨rfl, (Below.refl _ _).alloc (Nat.le_refl _) _⟩

set_option maxRecDepth 20000 in
set_option maxHeartbeats 1000000 in
theorem hcall_x (pc T17 B : Int) (n0 : (T17 == 0) = false) (n1 : (T17 == 1) = false) (w : World) :
    Calls Tryd.prog 67 #[.int .u32 pc, .int .u32 T17, .int .u32 B] w fun e w' => e = .returned (cv pc pc 2 5 0 0 0 0 0 false 0) ∧ Below w.heap.size w w' := by
  go_enter Tryd.func67, Tryd.ntmps67
  go_wp2_with fail
  refine (htrap_any pc 5 _).mono ?_
  rintro e w2 ⟨rfl, hk⟩
  have hs := hk.size
  simp at hs
  have hr := (hk.block w.heap.size (by simp)).trans (heap_alloc_new _ _)
  go_wp2_with (refine wpList_store_row rfl 38 _ _ rfl _ _ rfl rfl 38 _ hr size_commit rfl (ones_ccs _ _ _ _ _ _ _ _ _ _ _) ?_)
  exact bodyPost_ret (v := cv pc pc 2 5 0 0 0 0 0 false 0) (results_cell_row Tryd.results67 _ _ _ 38 _ (0, 0) _ rfl (setRow_heap _ _ _ _ _ _ hr) Tryd.underlying38 rfl size_commit) rfl ⟨rfl, below_row (((Below.refl _ _).alloc (Nat.le_refl _) _).trans (hk.mono (by simp))) (by simp) _⟩
end Go.Proofs.YtpiohehijkpghaaDoor
namespace Go.Proofs.YtpiohehijkpghaaDoor
open Go.RowKit
open Hy
set_option linter.unusedVariables false
set_option linter.unusedSimpArgs false

theorem heap3_old (w : World) (A B C : Obj) : (((w.alloc A).alloc B).alloc C).drew.heap[w.heap.size]? = some A :=
  (Below.heap_alloc _ _ _ (by simp; omega)).trans (heap_alloc2_old _ _ _)
theorem heap3_new (w : World) (A B C : Obj) : (((w.alloc A).alloc B).alloc C).drew.heap[w.heap.size + 1 + 1]? = some C := by
  have h := heap_alloc_new ((w.alloc A).alloc B) C
  rw [show ((w.alloc A).alloc B).heap.size = w.heap.size + 1 + 1 by simp] at h
  exact h

set_option maxRecDepth 20000 in
set_option maxHeartbeats 1000000 in
theorem hbehind_0 (H : Array Value) (pc next st ca v at_ many data told : Int) (out : Bool) (hH : H.size = 35) (hO : Ones H) (h32 : ∃ z, H[32]? = some (.int .u32 z)) (h33 : ∃ z, H[33]? = some (.int .i64 z)) (h34 : ∃ z, H[34]? = some (.int .i64 z)) (w : World) :
    Calls Tryd.prog 34 #[.agg H, cv pc next st ca 0 v at_ many data out told] w fun e w' => e = .returned (.agg (((H.setIfInBounds 32 (.int .u32 next)).setIfInBounds 33 (.int .i64 st)).setIfInBounds 34 (.int .i64 ca))) ∧ Below w.heap.size w w' := by
  obtain ⟨z2, h32⟩ := h32
  obtain ⟨z3, h33⟩ := h33
  obtain ⟨z4, h34⟩ := h34
  have HI : Hid ((Tryd.prog.info? 34).map (·.size) = some (((H.setIfInBounds 32 (.int .u32 next)).setIfInBounds 33 (.int .i64 st)).setIfInBounds 34 (.int .i64 ca)).size) := by show _ = _; rw [size_hart]; simp [hH]
  have HZ : Hid (35 = (((H.setIfInBounds 32 (.int .u32 next)).setIfInBounds 33 (.int .i64 st)).setIfInBounds 34 (.int .i64 ca)).size) := by show _ = _; simp [hH]
  have HN : Hid (Ones (((H.setIfInBounds 32 (.int .u32 next)).setIfInBounds 33 (.int .i64 st)).setIfInBounds 34 (.int .i64 ca))) := by
    show Ones _
    repeat refine Ones.set ?_ _ _ (by simp [Value.oneCell'])
    exact hO
  clear hH hO
  go_enter Tryd.func34, Tryd.ntmps34
  go_wp2_with fail
  go_region
  go_upto_region 4 with fail
  go_wp2_with (first | (refine wpList_load_row rfl 34 _ rfl _ rfl 34 _ (0, 0) _ (heap3_old _ _ _ _) Tryd.underlying34 rfl HI.out ?_) | (refine wpList_store_row rfl 34 _ _ rfl _ _ rfl rfl 34 _ (heap3_new _ _ _ _) HI.out HZ.out HN.out ?_))
  exact bodyPost_ret (v := .agg (((H.setIfInBounds 32 (.int .u32 next)).setIfInBounds 33 (.int .i64 st)).setIfInBounds 34 (.int .i64 ca))) (results_cell_row Tryd.results34 _ _ _ 34 _ (0, 0) _ rfl (setRow_heap _ _ _ _ _ _ (heap3_new _ _ _ _)) Tryd.underlying34 rfl HI.out) rfl ⟨rfl, below_row (((((Below.refl _ _).alloc (Nat.le_refl _) _).alloc (by simp) _).alloc (by simp; omega) _).drew) (by omega) _⟩

set_option maxRecDepth 20000 in
set_option maxHeartbeats 1000000 in
theorem hbehind_1 (H : Array Value) (pc next st ca v at_ many data told : Int) (rd : Nat) (R0 : Int) (out : Bool) (hH : H.size = 35) (hO : Ones H) (h32 : ∃ z, H[32]? = some (.int .u32 z)) (h33 : ∃ z, H[33]? = some (.int .i64 z)) (h34 : ∃ z, H[34]? = some (.int .i64 z)) (hR : H[rd]? = some (.int .u32 R0)) (lr : rd < 32) (hz : ((rd : Int) != 0) = true) (w : World) :
    Calls Tryd.prog 34 #[.agg H, cv pc next st ca rd v at_ many data out told] w fun e w' => e = .returned (.agg ((((H.setIfInBounds 32 (.int .u32 next)).setIfInBounds 33 (.int .i64 st)).setIfInBounds 34 (.int .i64 ca)).setIfInBounds rd (.int .u32 v))) ∧ Below w.heap.size w w' := by
  obtain ⟨z2, h32⟩ := h32
  obtain ⟨z3, h33⟩ := h33
  obtain ⟨z4, h34⟩ := h34
  have HI : Hid ((Tryd.prog.info? 34).map (·.size) = some ((((H.setIfInBounds 32 (.int .u32 next)).setIfInBounds 33 (.int .i64 st)).setIfInBounds 34 (.int .i64 ca)).setIfInBounds rd (.int .u32 v)).size) := by show _ = _; rw [size_hart]; simp [hH]
  have HZ : Hid (35 = ((((H.setIfInBounds 32 (.int .u32 next)).setIfInBounds 33 (.int .i64 st)).setIfInBounds 34 (.int .i64 ca)).setIfInBounds rd (.int .u32 v)).size) := by show _ = _; simp [hH]
  have HN : Hid (Ones ((((H.setIfInBounds 32 (.int .u32 next)).setIfInBounds 33 (.int .i64 st)).setIfInBounds 34 (.int .i64 ca)).setIfInBounds rd (.int .u32 v))) := by
    show Ones _
    repeat refine Ones.set ?_ _ _ (by simp [Value.oneCell'])
    exact hO
  clear hH hO
  have hz1 : 0 < rd := by simp at hz; omega
  have e32 : ¬ 32 = rd := by omega
  have e33 : ¬ 33 = rd := by omega
  have e34 : ¬ 34 = rd := by omega
  have f32 : ¬ rd = 32 := by omega
  have f33 : ¬ rd = 33 := by omega
  have f34 : ¬ rd = 34 := by omega
  go_enter Tryd.func34, Tryd.ntmps34
  go_wp2_with fail
  go_region
  go_upto_region 4 with fail
  go_wp2_with (first | (refine wpList_load_row rfl 34 _ rfl _ rfl 34 _ (0, 0) _ (heap3_old _ _ _ _) Tryd.underlying34 rfl HI.out ?_) | (refine wpList_store_row rfl 34 _ _ rfl _ _ rfl rfl 34 _ (heap3_new _ _ _ _) HI.out HZ.out HN.out ?_))
  exact bodyPost_ret (v := .agg ((((H.setIfInBounds 32 (.int .u32 next)).setIfInBounds 33 (.int .i64 st)).setIfInBounds 34 (.int .i64 ca)).setIfInBounds rd (.int .u32 v))) (results_cell_row Tryd.results34 _ _ _ 34 _ (0, 0) _ rfl (setRow_heap _ _ _ _ _ _ (heap3_new _ _ _ _)) Tryd.underlying34 rfl HI.out) rfl ⟨rfl, below_row (((((Below.refl _ _).alloc (Nat.le_refl _) _).alloc (by simp) _).alloc (by simp; omega) _).drew) (by omega) _⟩

end Go.Proofs.YtpiohehijkpghaaDoor
namespace Go.Proofs.YtpiohehijkpghaaDoor
open Go.RowKit
open Hy
set_option linter.unusedVariables false
set_option linter.unusedSimpArgs false

/-- Bytes that lie somewhere, told by a function. -/
def Mem (w : World) (p : Option Addr) (n : Nat) (f : Nat → Int) : Prop := 0 < n → ∃ g o, p = some ⟨g, o, none⟩ ∧ Lies w g o n f

theorem Mem.below {w w' : World} {p : Option Addr} {n : Nat} {f : Nat → Int} (h : Mem w p n f) (hb : Below w.heap.size w w') : Mem w' p n f := fun h0 => by
  obtain ⟨g, o, rfl, hl⟩ := h h0
  exact ⟨g, o, rfl, hl.below hb⟩
theorem Mem.bytes {w : World} {p : Option Addr} {n : Nat} {f : Nat → Int} (h : Mem w p n f) : Lib.BytesIn w p n ((List.range n).map f) := fun h0 => by
  obtain ⟨g, o, rfl, hl⟩ := h h0
  exact ⟨g, o, rfl, fun i hi => by rw [hl i hi]; simp [List.getD, hi]⟩
theorem Mem.ofFr {w : World} {B h n : Nat} {f : Nat → Int} (H : Fr w B h n f) : Mem w (some ⟨h, 0, none⟩) n f := fun _ => ⟨h, 0, rfl, fun i hi => by rw [Nat.zero_add]; exact H.cell i hi⟩

/-- Bytes in a block of the call's own, told by a function. -/
def Own (w : World) (B : Nat) (p : Option Addr) (n : Nat) (f : Nat → Int) : Prop := 0 < n → ∃ h, p = some ⟨h, 0, none⟩ ∧ Fr w B h n f
theorem Own.mem {w : World} {B : Nat} {p : Option Addr} {n : Nat} {f : Nat → Int} (h : Own w B p n f) : Mem w p n f := fun h0 => by
  obtain ⟨g, rfl, hf⟩ := h h0
  exact Mem.ofFr hf h0

set_option maxHeartbeats 1000000 in
theorem Clone_some (ad : Addr) (c : Nat) (w : World) :
    Calls Tryd.prog 47 #[.slice (some ad) 0 c] w fun e w' => (∃ p' cap, e = .returned (.slice p' 0 cap)) ∧ Below w.heap.size w w' := by
  obtain ⟨i0, hi, hz0, hz1, hz2⟩ := info_parts info5
  have q22 : ∀ (w : World) (a : Option Addr) (n c n' c' : Nat), (binOp .eql 35 (.slice a n c) (.slice none n' c')).run Tryd.prog w = .ok (.bool a.isNone) w := fun w a n c n' c' => Lib.run_eql_slice_nil w _ _ a n c n' c' Tryd.underlying35
  go_enter Tryd.func47, Tryd.ntmps47
  go_wp2_with (at_builtin; refine wpList_append_own _ rfl _ _ 35 rfl w.heap.size 5 i0 (.int .u8 0) 1 1 Tryd.underlying35 hi hz0 hz1 hz2 rfl (by decide) _ _ _ rfl (World.ownsRow_made w #[] 0 (Nat.le_refl _) (Nat.zero_le _) rfl) ad 0 c [] rfl ?qc1 ?qc2 ?qc3 ?qc4 ?qc5 ?qc6 ?_)
  case qc1 => simp
  case qc2 => intro j u hj; simp at hj
  case qc3 => intro u hu; cases hu
  case qc4 => unfold maxLen; omega
  case qc5 => omega
  case qc6 => simp
  intro v' w1 hown hgrow hnil
  obtain ⟨p', cap, hv⟩ : ∃ p' cap, v' = .slice p' 0 cap := by
    obtain ⟨_, hcase⟩ := hown
    rcases hcase with ⟨h, _⟩ | ⟨g, cap', cur, h, _⟩
    · exact ⟨none, 0, h⟩
    · exact ⟨_, _, h⟩
  subst hv
  go_wp2
  go_ret
  exact ⟨⟨p', cap, rfl⟩, ((Below.refl _ w).alloc (Nat.le_refl _) _).grown hgrow (by simp) (by intro k hk; simp [Value.ownBlock] at hk; omega)⟩

theorem Clone_none (c : Nat) (w : World) :
    Calls Tryd.prog 47 #[.slice none 0 c] w fun e w' => (∃ p' cap, e = .returned (.slice p' 0 cap)) ∧ Below w.heap.size w w' := by
  have q22 : ∀ (w : World) (a : Option Addr) (n c n' c' : Nat), (binOp .eql 35 (.slice a n c) (.slice none n' c')).run Tryd.prog w = .ok (.bool a.isNone) w := fun w a n c n' c' => Lib.run_eql_slice_nil w _ _ a n c n' c' Tryd.underlying35
  go_enter Tryd.func47, Tryd.ntmps47
  go_wp2
  go_ret
  exact ⟨⟨none, 0, rfl⟩, Below.refl _ _⟩

theorem CloneM (p : Option Addr) (n c : Nat) (f : Nat → Int) (hn : n ≤ 4096) (w : World) (hm : Mem w p n f) :
    Calls Tryd.prog 47 #[.slice p n c] w fun e w' => (∃ p' cap, e = .returned (.slice p' n cap) ∧ n ≤ cap ∧ (0 < n → ∃ h, p' = some ⟨h, 0, none⟩ ∧ Fr w' w.heap.size h n f)) ∧ Below w.heap.size w w' := by
  rcases Nat.eq_zero_or_pos n with rfl | h0
  · cases p with
    | none => exact (Clone_none c w).mono fun e w' ⟨⟨p', cap, he⟩, hb⟩ => ⟨⟨p', cap, he, Nat.zero_le _, fun h => absurd h (by omega)⟩, hb⟩
    | some ad => exact (Clone_some ad c w).mono fun e w' ⟨⟨p', cap, he⟩, hb⟩ => ⟨⟨p', cap, he, Nat.zero_le _, fun h => absurd h (by omega)⟩, hb⟩
  · obtain ⟨g, o, rfl, hl⟩ := hm h0
    exact (Clone_any g o n c f h0 (by omega) w hl).mono fun e w' ⟨⟨h, cap, he, h1, _, hF⟩, hb⟩ => ⟨⟨_, cap, he, h1, fun _ => ⟨h, rfl, hF⟩⟩, hb⟩

set_option maxRecDepth 20000 in
set_option maxHeartbeats 1000000 in
theorem hlaid_0 (p : Option Addr) (n c : Nat) (f : Nat → Int) (hn : n ≤ 4096) (pc next st ca rd v at_ data told : Int) (out : Bool) (w : World) (hm : Mem w p n f) :
    Calls Tryd.prog 35 #[.slice p n c, cv pc next st ca rd v at_ 0 data out told] w fun e w' => (∃ p' cap, e = .returned (.slice p' n cap) ∧ n ≤ cap ∧ Own w' w.heap.size p' n f) ∧ Below w.heap.size w w' := by
  have C := CloneM p n c f hn (w.alloc (.cells (ccs pc next st ca rd v at_ 0 data out told) 38)) (hm.below ((Below.refl _ _).alloc (Nat.le_refl _) _))
  go_enter Tryd.func35, Tryd.ntmps35
  go_wp2_with fail
  refine C.mono ?_
  rintro e w2 ⟨⟨p', cap, rfl, hcap, hF⟩, hk⟩
  have hs := hk.size
  simp at hs
  have hr := (hk.block w.heap.size (by simp)).trans (heap_alloc_new _ _)
  have k7 := (cell_of_row w2 w.heap.size 7 _ _ _ hr).trans rfl
  have hb : Below w.heap.size w w2 := ((Below.refl _ _).alloc (Nat.le_refl _) _).trans (hk.mono (by simp))
  have HM : Hid (Own w2 w.heap.size p' n f) := fun h0 => by
    obtain ⟨h, rfl, hf⟩ := hF h0
    exact ⟨h, rfl, hf.moved (by have := hf.base; simp at this; omega) rfl (Nat.le_refl _)⟩
  clear hr hk hF C hm
  go_wp2_with fail
  go_loopw [6, 11] (fun i k wr => k = .int .i64 0 ∧ wr = w2) (fun _ _ _ => 0)
  case atStart => exact ⟨rfl, rfl⟩
  case round =>
    obtain ⟨rfl, rfl⟩ := hrel
    go_wp2_with fail
    go_ret
    exact ⟨⟨p', cap, rfl, hcap, HM.out⟩, hb⟩

theorem Fr.drew {w : World} {B h n : Nat} {f : Nat → Int} (H : Fr w B h n f) : Fr w.drew B h n f := H.moved H.base rfl (Nat.le_refl _)

set_option maxRecDepth 20000 in
set_option maxHeartbeats 1000000 in
theorem hlaid_m (g o n c : Nat) (f : Nat → Int) (hn : n ≤ 4096) (a m : Nat) (hm : m = 1 ∨ m = 2 ∨ m = 4) (ham : a + m ≤ n) (L : Int) (l0 : 0 ≤ L) (l1 : L ≤ 4294967295) (pc next st ca rd v told : Int) (out : Bool) (w : World) (hl : Lies w g o n f) :
    Calls Tryd.prog 35 #[.slice (some ⟨g, o, none⟩) n c, cv pc next st ca rd v a m L out told] w fun e w' => (∃ p' cap, e = .returned (.slice p' n cap) ∧ n ≤ cap ∧ Own w' w.heap.size p' n (sto f a L m)) ∧ Below w.heap.size w w' := by
  have C := Clone_any g o n c f (by omega) (by omega) (w.alloc (.cells (ccs pc next st ca rd v a m L out told) 38)) (hl.below ((Below.refl _ _).alloc (Nat.le_refl _) _))
  go_enter Tryd.func35, Tryd.ntmps35
  go_wp2_with fail
  refine C.mono ?_
  rintro e w2 ⟨⟨h, cap, rfl, hcap, hmax, hF⟩, hk⟩
  have hs := hk.size
  simp at hs
  have hr := (hk.block w.heap.size (by simp)).trans (heap_alloc_new _ _)
  have k6 := (cell_of_row w2 w.heap.size 6 _ _ _ hr).trans rfl
  have k7 := (cell_of_row w2 w.heap.size 7 _ _ _ hr).trans rfl
  have k8 := (cell_of_row w2 w.heap.size 8 _ _ _ hr).trans rfl
  have hb : Below w.heap.size w w2 := ((Below.refl _ _).alloc (Nat.le_refl _) _).trans (hk.mono (by simp))
  have hh : w.heap.size + 1 ≤ h := by have := hF.base; simpa using this
  have hF' : Fr w2 (w.heap.size + 1) h n f := hF.moved hh rfl (Nat.le_refl _)
  clear hr hk hF C hl
  go_wp2_with fail
  go_loopw [6, 11] (fun i k wr => ∃ j : Nat, j ≤ m ∧ k = .int .i64 j ∧ Fr wr (w.heap.size + 1) h n (sto f a L j) ∧ Below (w.heap.size + 1) w2 wr) (fun _ k _ => m - (intOf k).toNat)
  case atStart => exact ⟨0, by omega, rfl, hF'.congr fun i _ => by unfold sto; rw [if_neg (by omega)], Below.refl _ _⟩
  case round =>
    obtain ⟨j, hj, rfl, hF, hB⟩ := hrel
    by_cases hlt : j < m
    · have c0 := hF.cell (a + j) (by omega)
      have z0 := hF.free (a + j) (by omega)
      have m6 := below_cell_at hB (Nat.lt_succ_self _) k6
      have m8 := below_cell_at hB (Nat.lt_succ_self _) k8
      rcases (by omega : j = 0 ∨ j = 1 ∨ j = 2 ∨ j = 3) with rfl | rfl | rfl | rfl
      · rw [Nat.add_zero] at c0 z0
        go_wp2
        go_region
        go_wp2_with fail
        exact ⟨⟨1, by omega, rfl, (hF.step (j := 0) (by omega) _ (by rw [show p256 0 = 1 from rfl, Int.ediv_one])).drew, (hB.setCell (by omega) _).drew⟩, by simp [intOf]; omega⟩
      · go_wp2
        go_region
        go_wp2_with fail
        exact ⟨⟨2, by omega, rfl, (hF.step (j := 1) (by omega) _ (rfl)).drew, (hB.setCell (by omega) _).drew⟩, by simp [intOf]; omega⟩
      · go_wp2
        go_region
        go_wp2_with fail
        exact ⟨⟨3, by omega, rfl, (hF.step (j := 2) (by omega) _ (rfl)).drew, (hB.setCell (by omega) _).drew⟩, by simp [intOf]; omega⟩
      · go_wp2
        go_region
        go_wp2_with fail
        exact ⟨⟨4, by omega, rfl, (hF.step (j := 3) (by omega) _ (by rw [show p256 3 = 16777216 from rfl]; omega)).drew, (hB.setCell (by omega) _).drew⟩, by simp [intOf]; omega⟩
    · obtain rfl : j = m := by omega
      go_wp2_with fail
      go_ret
      exact ⟨⟨some ⟨h, 0, none⟩, cap, rfl, hcap, fun _ => ⟨h, rfl, hF.moved (by omega) rfl (Nat.le_refl _)⟩⟩, hb.trans (hB.mono (by omega))⟩
end Go.Proofs.YtpiohehijkpghaaDoor
