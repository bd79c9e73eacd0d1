/- What a load sees: the document. -/
import Derived.Test.YtpiohehijkpghabOrdH
import Derived.Test.YtpiohehijkpghabOrdS
namespace Go.Proofs.Ytpiohehijkpghab
open Go.RowKit
open Hy
set_option linter.unusedVariables false
set_option linter.unusedSimpArgs false
set_option maxRecDepth 20000 in
set_option maxHeartbeats 1000000 in
theorem ySee_no (a : Option Addr) (n c : Nat) (p : Option Addr) (ml mc : Nat) (seq many : Int) (A : Nat) (hA : A ≤ 4294967295) (hml : ml ≤ 140737488355328) (h : ¬ Fit many A ml) (w : World) :
    Calls Try.prog 43 #[.slice a n c, .slice p ml mc, .int .i64 seq, .int .u32 A, .int .i64 many] w fun e w' => e = .returned (.tuple #[.int .u32 0, .bool false, .bool false]) ∧ Below w.heap.size w w' := by
  by_cases hm : many = 1 ∨ many = 2 ∨ many = 4
  · have h' : ¬ ((A : Int) % many = 0 ∧ (A : Int) + many ≤ ml) := fun h2 => h ⟨hm, h2⟩
    clear h
    rcases hm with rfl | rfl | rfl
    · have hd : decide ((ml : Int) < (A : Int) + 1) = true := decide_eq_true (by omega)
      clear h'
      go_enter Try.func43, Try.ntmps43
      go_wp2_with fail
      refine bodyPost_ret (v := .tuple #[.int .u32 0, .bool false, .bool false]) ?_ rfl ⟨rfl, Below.refl _ _⟩
      simp [results, Try.results43, asAddr]
    · by_cases h2 : (A : Int) % 2 = 0
      · have hd : decide ((ml : Int) < (A : Int) + 2) = true := decide_eq_true (by omega)
        clear h'
        go_enter Try.func43, Try.ntmps43
        go_wp2_with fail
        refine bodyPost_ret (v := .tuple #[.int .u32 0, .bool false, .bool false]) ?_ rfl ⟨rfl, Below.refl _ _⟩
        simp [results, Try.results43, asAddr]
      · have h3 : (A : Int) % 2 = 1 := by omega
        clear h2
        clear h'
        go_enter Try.func43, Try.ntmps43
        go_wp2_with fail
        refine bodyPost_ret (v := .tuple #[.int .u32 0, .bool false, .bool false]) ?_ rfl ⟨rfl, Below.refl _ _⟩
        simp [results, Try.results43, asAddr]
    · by_cases h2 : (A : Int) % 4 = 0
      · have hd : decide ((ml : Int) < (A : Int) + 4) = true := decide_eq_true (by omega)
        clear h'
        go_enter Try.func43, Try.ntmps43
        go_wp2_with fail
        refine bodyPost_ret (v := .tuple #[.int .u32 0, .bool false, .bool false]) ?_ rfl ⟨rfl, Below.refl _ _⟩
        simp [results, Try.results43, asAddr]
      · rcases (by omega : (A : Int) % 4 = 1 ∨ (A : Int) % 4 = 2 ∨ (A : Int) % 4 = 3) with h3 | h3 | h3
        · clear h2
          clear h'
          go_enter Try.func43, Try.ntmps43
          go_wp2_with fail
          refine bodyPost_ret (v := .tuple #[.int .u32 0, .bool false, .bool false]) ?_ rfl ⟨rfl, Below.refl _ _⟩
          simp [results, Try.results43, asAddr]
        · clear h2
          clear h'
          go_enter Try.func43, Try.ntmps43
          go_wp2_with fail
          refine bodyPost_ret (v := .tuple #[.int .u32 0, .bool false, .bool false]) ?_ rfl ⟨rfl, Below.refl _ _⟩
          simp [results, Try.results43, asAddr]
        · clear h2
          clear h'
          go_enter Try.func43, Try.ntmps43
          go_wp2_with fail
          refine bodyPost_ret (v := .tuple #[.int .u32 0, .bool false, .bool false]) ?_ rfl ⟨rfl, Below.refl _ _⟩
          simp [results, Try.results43, asAddr]
  · have m1 : (many != 1) = true := by simp; omega
    have m2 : (many != 2) = true := by simp; omega
    have m4 : (many != 4) = true := by simp; omega
    clear h hm
    go_enter Try.func43, Try.ntmps43
    go_wp2_with fail
    refine bodyPost_ret (v := .tuple #[.int .u32 0, .bool false, .bool false]) ?_ rfl ⟨rfl, Below.refl _ _⟩
    simp [results, Try.results43, asAddr]
set_option maxRecDepth 20000 in
set_option maxHeartbeats 2000000 in
theorem ySee_1 (a : Option Addr) (n c : Nat) (l : List Ac) (hok : Hid (∀ q ∈ l, q.Ok)) (g o ml mc : Nat) (f : Nat → Int) (seq : Int) (A m : Nat) (hA : A ≤ 4294967295) (hml : ml ≤ 140737488355328) (hv : m = 1) (hA0 : A % m = 0) (hAm : A + m ≤ ml) (hfr : Hid (∀ i, i < ml → 0 ≤ f i ∧ f i ≤ 255)) (R : Int) (hR : Hid (R = le (sb l seq n A f) m)) (U : Bool) (hU : Hid (Sure l seq n U)) (hn : n ≤ 140737488355328) (w : World) (hL : Hid (LC w a n c 7 (acs l))) (hM : Hid (Lies w g o ml f)) (hg : Hid (g < w.heap.size)) :
    Calls Try.prog 43 #[.slice a n c, .slice (some ⟨g, o, none⟩) ml mc, .int .i64 seq, .int .u32 A, .int .i64 m] w fun e w' => e = .returned (.tuple #[.int .u32 R, .bool true, .bool U]) ∧ Below w.heap.size w w' := by
  have hm : m = 1 ∨ m = 2 ∨ m = 4 := by omega
  have hlen : Hid (l.length = n) := by have := hL.out.len; rw [acs_len] at this; show _ = _; omega
  have hsr : Hid (∀ i, i < m → 0 ≤ sb l seq n A f i ∧ sb l seq n A f i ≤ 255) := fun i hi => sb_rng (hfr.out _ (by omega))
  have hR2 : Hid (0 ≤ R ∧ R < 4294967296) := by
    show _ ∧ _
    rw [hR.out, ← hiN_le hm]
    have := hiN_rng (s := sb l seq n A f) (m := m) (j := m) (by omega) (Nat.le_refl _) hsr.out
    exact ⟨this.1, this.2.1⟩
  have hAm4 : A + m ≤ 4294967296 := by rcases hm with rfl | rfl | rfl <;> omega
  have hm4 : 1 ≤ m ∧ m ≤ 4 := by omega
  have HM : Hid (m = 1 ∨ m = 2 ∨ m = 4) := hm
  have n1 : ((m : Int) != 1) = false := by rw [hv]; decide
  have hm0 : ¬ (m : Int) = 0 := by omega
  have hrem : (A : Int) % (m : Int) = 0 := by omega
  have htm : (A : Int).tmod (m : Int) = 0 := by rw [Int.tmod_eq_emod_of_nonneg (by omega)]; exact hrem
  have hov : decide ((ml : Int) < (A : Int) + (m : Int)) = false := decide_eq_false (by omega)
  clear hm hv hA0
  go_enter Try.func43, Try.ntmps43
  go_wp2_with fail
  go_loopw [13, 14] (fun t i wr => ∃ (j : Nat) (N : Int), j ≤ m ∧ i = .int .i64 ((m : Int) - 1 - j) ∧ t = .int .i64 N ∧ Hid (N = hiN (sb l seq n A f) m j) ∧ Hid (Below w.heap.size w wr))
    (fun _ i _ => (intOf i + 1).toNat)
  case atStart => exact ⟨0, 0, by omega, by go_num, rfl, rfl, Below.refl _ _⟩
  case round =>
    obtain ⟨j, N, hj, rfl, rfl, HN, HB⟩ := hrel
    by_cases hlt : j < m
    · have hN := hiN_rng (s := sb l seq n A f) (m := m) (j := j) (by omega) hj hsr.out
      rw [← HN.out] at hN
      have hN2 := hN.2.2 hlt
      have hN0 := hN.1
      clear hN
      obtain ⟨r, hr⟩ : ∃ r, r = sb l seq n A f (m - 1 - j) := ⟨_, rfl⟩
      have hr2 := hsr.out (m - 1 - j) (by omega)
      rw [← hr] at hr2
      have HN' : Hid (256 * N + r = hiN (sb l seq n A f) m (j + 1)) := by
        show _ = _
        unfold hiN
        rw [HN.out, hr]
      have C := fun w hL hM => yone_any a n c l hok g o ml mc f seq ((A : Int) + ((m : Int) - 1 - j)) (A + (m - 1 - j)) (by omega) (by omega) (by omega) hml hfr r (show _ = _ by rw [hr, sb, show ((A : Int) + ((m : Int) - 1 - j)) = (A : Int) + ((m - 1 - j : Nat) : Int) by omega]) hn w hL hM
      clear hr
      go_wp2_with fail
      refine (C _ (hL.out.below (Nat.le_refl _) HB.out) (fun i hi => (HB.out.cell (p := ⟨g, o + i, none⟩) hg.out).trans (hM.out i hi))).mono ?_
      rintro e W1 ⟨rfl, hk⟩
      have HF : Hid (Below w.heap.size w W1) := HB.out.trans (hk.mono HB.out.size)
      clear hk C
      go_wp2_with fail
      exact ⟨⟨j + 1, _, by omega, by go_num, rfl, HN', HF⟩, by simp [intOf]; omega⟩
    · obtain rfl : j = m := by omega
      have hNR : N = R := by rw [HN.out, hR.out, hiN_le HM.out]
      subst hNR
      obtain ⟨r0, r1⟩ := hR2.out
      have hneg : decide ((0 : Int) ≤ (j : Int) - 1 - j) = false := decide_eq_false (by omega)
      clear HN
      go_wp2_with fail
      go_loopw [16, 17] (fun t i wr => ∃ (k : Nat) (S : Bool), k ≤ n ∧ i = .int .i64 k ∧ t = .bool S ∧ Hid (Sure l seq k S) ∧ Hid (Below w.heap.size w wr))
        (fun _ i _ => n - (intOf i).toNat)
      case atStart => exact ⟨0, true, by omega, rfl, rfl, ⟨fun _ j q hj => absurd hj (by omega), fun _ => rfl⟩, HB⟩
      case round =>
        obtain ⟨k, S, hk, rfl, rfl, HS, HB⟩ := hrel
        by_cases hlt : k < n
        · obtain ⟨q, hq⟩ := atA_ex (l := l) (k := k) (by rw [hlen.out]; exact hlt)
          obtain ⟨bb, oo, rfl, hb, hc⟩ := hL.out.sure (by omega)
          have cc : ∀ j u, (cel q)[j]? = some u → wr.cell? ⟨bb, oo + (k * 7 + j), none⟩ = some u := fun j u hj => (HB.out.cell (p := ⟨bb, oo + (k * 7 + j), none⟩) hb).trans (hc _ _ (acs_at _ _ _ _ _ hq hj))
          have c0 : wr.cell? ⟨bb, oo + k * 7, none⟩ = some (.int .i64 q.seq) := cc 0 _ rfl
          have c1 : wr.cell? ⟨bb, oo + k * 7 + 1, none⟩ = some (.bool q.st) := cc 1 _ rfl
          have c2 : wr.cell? ⟨bb, oo + k * 7 + 2, none⟩ = some (.bool q.kn) := cc 2 _ rfl
          have HQ : Hid (l[k]? = some q) := hq
          clear hc hq cc
          cases h1 : q.st with
          | false =>
            rw [h1] at c1
            have HN : Hid (Sure l seq (k + 1) S) := HS.out.yes HQ.out (unk_no1 (ahd_no1 h1))
            go_wp2_with fail
            exact ⟨⟨k + 1, _, by omega, by go_num, rfl, HN, HB⟩, by simp [intOf]; omega⟩
          | true =>
            rw [h1] at c1
            by_cases h2 : q.seq < seq
            · have h2b : decide (q.seq < seq) = true := decide_eq_true h2
              cases h3 : q.kn with
              | true =>
                rw [h3] at c2
                have HN : Hid (Sure l seq (k + 1) S) := HS.out.yes HQ.out (unk_no2 h3)
                go_wp2_with fail
                exact ⟨⟨k + 1, _, by omega, by go_num, rfl, HN, HB⟩, by simp [intOf]; omega⟩
              | false =>
                rw [h3] at c2
                have HN : Hid (Sure l seq (k + 1) false) := Sure.no HQ.out (unk_yes (ahd_yes h1 (by omega)) h3)
                go_wp2_with fail
                exact ⟨⟨k + 1, _, by omega, by go_num, rfl, HN, HB⟩, by simp [intOf]; omega⟩
            · have h2b : decide (q.seq < seq) = false := decide_eq_false h2
              have HN : Hid (Sure l seq (k + 1) S) := HS.out.yes HQ.out (unk_no1 (ahd_no2 (by omega)))
              go_wp2_with fail
              exact ⟨⟨k + 1, _, by omega, by go_num, rfl, HN, HB⟩, by simp [intOf]; omega⟩
        · obtain rfl : k = n := by omega
          have hSU : S = U := by
            have h1 := HS.out
            have h2 := hU.out
            unfold Sure at h1 h2
            exact Bool.eq_iff_iff.2 (h1.trans h2.symm)
          subst hSU
          go_wp2_with fail
          refine bodyPost_ret (v := .tuple #[.int .u32 N, .bool true, .bool S]) ?_ rfl ⟨rfl, HB.out⟩
          simp [results, Try.results43, asAddr]
set_option maxRecDepth 20000 in
set_option maxHeartbeats 2000000 in
theorem ySee_2 (a : Option Addr) (n c : Nat) (l : List Ac) (hok : Hid (∀ q ∈ l, q.Ok)) (g o ml mc : Nat) (f : Nat → Int) (seq : Int) (A m : Nat) (hA : A ≤ 4294967295) (hml : ml ≤ 140737488355328) (hv : m = 2) (hA0 : A % m = 0) (hAm : A + m ≤ ml) (hfr : Hid (∀ i, i < ml → 0 ≤ f i ∧ f i ≤ 255)) (R : Int) (hR : Hid (R = le (sb l seq n A f) m)) (U : Bool) (hU : Hid (Sure l seq n U)) (hn : n ≤ 140737488355328) (w : World) (hL : Hid (LC w a n c 7 (acs l))) (hM : Hid (Lies w g o ml f)) (hg : Hid (g < w.heap.size)) :
    Calls Try.prog 43 #[.slice a n c, .slice (some ⟨g, o, none⟩) ml mc, .int .i64 seq, .int .u32 A, .int .i64 m] w fun e w' => e = .returned (.tuple #[.int .u32 R, .bool true, .bool U]) ∧ Below w.heap.size w w' := by
  have hm : m = 1 ∨ m = 2 ∨ m = 4 := by omega
  have hlen : Hid (l.length = n) := by have := hL.out.len; rw [acs_len] at this; show _ = _; omega
  have hsr : Hid (∀ i, i < m → 0 ≤ sb l seq n A f i ∧ sb l seq n A f i ≤ 255) := fun i hi => sb_rng (hfr.out _ (by omega))
  have hR2 : Hid (0 ≤ R ∧ R < 4294967296) := by
    show _ ∧ _
    rw [hR.out, ← hiN_le hm]
    have := hiN_rng (s := sb l seq n A f) (m := m) (j := m) (by omega) (Nat.le_refl _) hsr.out
    exact ⟨this.1, this.2.1⟩
  have hAm4 : A + m ≤ 4294967296 := by rcases hm with rfl | rfl | rfl <;> omega
  have hm4 : 1 ≤ m ∧ m ≤ 4 := by omega
  have HM : Hid (m = 1 ∨ m = 2 ∨ m = 4) := hm
  have n1 : ((m : Int) != 1) = true := by rw [hv]; decide
  have n2 : ((m : Int) != 2) = false := by rw [hv]; decide
  have hm0 : ¬ (m : Int) = 0 := by omega
  have hrem : (A : Int) % (m : Int) = 0 := by omega
  have htm : (A : Int).tmod (m : Int) = 0 := by rw [Int.tmod_eq_emod_of_nonneg (by omega)]; exact hrem
  have hov : decide ((ml : Int) < (A : Int) + (m : Int)) = false := decide_eq_false (by omega)
  clear hm hv hA0
  go_enter Try.func43, Try.ntmps43
  go_wp2_with fail
  go_loopw [13, 14] (fun t i wr => ∃ (j : Nat) (N : Int), j ≤ m ∧ i = .int .i64 ((m : Int) - 1 - j) ∧ t = .int .i64 N ∧ Hid (N = hiN (sb l seq n A f) m j) ∧ Hid (Below w.heap.size w wr))
    (fun _ i _ => (intOf i + 1).toNat)
  case atStart => exact ⟨0, 0, by omega, by go_num, rfl, rfl, Below.refl _ _⟩
  case round =>
    obtain ⟨j, N, hj, rfl, rfl, HN, HB⟩ := hrel
    by_cases hlt : j < m
    · have hN := hiN_rng (s := sb l seq n A f) (m := m) (j := j) (by omega) hj hsr.out
      rw [← HN.out] at hN
      have hN2 := hN.2.2 hlt
      have hN0 := hN.1
      clear hN
      obtain ⟨r, hr⟩ : ∃ r, r = sb l seq n A f (m - 1 - j) := ⟨_, rfl⟩
      have hr2 := hsr.out (m - 1 - j) (by omega)
      rw [← hr] at hr2
      have HN' : Hid (256 * N + r = hiN (sb l seq n A f) m (j + 1)) := by
        show _ = _
        unfold hiN
        rw [HN.out, hr]
      have C := fun w hL hM => yone_any a n c l hok g o ml mc f seq ((A : Int) + ((m : Int) - 1 - j)) (A + (m - 1 - j)) (by omega) (by omega) (by omega) hml hfr r (show _ = _ by rw [hr, sb, show ((A : Int) + ((m : Int) - 1 - j)) = (A : Int) + ((m - 1 - j : Nat) : Int) by omega]) hn w hL hM
      clear hr
      go_wp2_with fail
      refine (C _ (hL.out.below (Nat.le_refl _) HB.out) (fun i hi => (HB.out.cell (p := ⟨g, o + i, none⟩) hg.out).trans (hM.out i hi))).mono ?_
      rintro e W1 ⟨rfl, hk⟩
      have HF : Hid (Below w.heap.size w W1) := HB.out.trans (hk.mono HB.out.size)
      clear hk C
      go_wp2_with fail
      exact ⟨⟨j + 1, _, by omega, by go_num, rfl, HN', HF⟩, by simp [intOf]; omega⟩
    · obtain rfl : j = m := by omega
      have hNR : N = R := by rw [HN.out, hR.out, hiN_le HM.out]
      subst hNR
      obtain ⟨r0, r1⟩ := hR2.out
      have hneg : decide ((0 : Int) ≤ (j : Int) - 1 - j) = false := decide_eq_false (by omega)
      clear HN
      go_wp2_with fail
      go_loopw [16, 17] (fun t i wr => ∃ (k : Nat) (S : Bool), k ≤ n ∧ i = .int .i64 k ∧ t = .bool S ∧ Hid (Sure l seq k S) ∧ Hid (Below w.heap.size w wr))
        (fun _ i _ => n - (intOf i).toNat)
      case atStart => exact ⟨0, true, by omega, rfl, rfl, ⟨fun _ j q hj => absurd hj (by omega), fun _ => rfl⟩, HB⟩
      case round =>
        obtain ⟨k, S, hk, rfl, rfl, HS, HB⟩ := hrel
        by_cases hlt : k < n
        · obtain ⟨q, hq⟩ := atA_ex (l := l) (k := k) (by rw [hlen.out]; exact hlt)
          obtain ⟨bb, oo, rfl, hb, hc⟩ := hL.out.sure (by omega)
          have cc : ∀ j u, (cel q)[j]? = some u → wr.cell? ⟨bb, oo + (k * 7 + j), none⟩ = some u := fun j u hj => (HB.out.cell (p := ⟨bb, oo + (k * 7 + j), none⟩) hb).trans (hc _ _ (acs_at _ _ _ _ _ hq hj))
          have c0 : wr.cell? ⟨bb, oo + k * 7, none⟩ = some (.int .i64 q.seq) := cc 0 _ rfl
          have c1 : wr.cell? ⟨bb, oo + k * 7 + 1, none⟩ = some (.bool q.st) := cc 1 _ rfl
          have c2 : wr.cell? ⟨bb, oo + k * 7 + 2, none⟩ = some (.bool q.kn) := cc 2 _ rfl
          have HQ : Hid (l[k]? = some q) := hq
          clear hc hq cc
          cases h1 : q.st with
          | false =>
            rw [h1] at c1
            have HN : Hid (Sure l seq (k + 1) S) := HS.out.yes HQ.out (unk_no1 (ahd_no1 h1))
            go_wp2_with fail
            exact ⟨⟨k + 1, _, by omega, by go_num, rfl, HN, HB⟩, by simp [intOf]; omega⟩
          | true =>
            rw [h1] at c1
            by_cases h2 : q.seq < seq
            · have h2b : decide (q.seq < seq) = true := decide_eq_true h2
              cases h3 : q.kn with
              | true =>
                rw [h3] at c2
                have HN : Hid (Sure l seq (k + 1) S) := HS.out.yes HQ.out (unk_no2 h3)
                go_wp2_with fail
                exact ⟨⟨k + 1, _, by omega, by go_num, rfl, HN, HB⟩, by simp [intOf]; omega⟩
              | false =>
                rw [h3] at c2
                have HN : Hid (Sure l seq (k + 1) false) := Sure.no HQ.out (unk_yes (ahd_yes h1 (by omega)) h3)
                go_wp2_with fail
                exact ⟨⟨k + 1, _, by omega, by go_num, rfl, HN, HB⟩, by simp [intOf]; omega⟩
            · have h2b : decide (q.seq < seq) = false := decide_eq_false h2
              have HN : Hid (Sure l seq (k + 1) S) := HS.out.yes HQ.out (unk_no1 (ahd_no2 (by omega)))
              go_wp2_with fail
              exact ⟨⟨k + 1, _, by omega, by go_num, rfl, HN, HB⟩, by simp [intOf]; omega⟩
        · obtain rfl : k = n := by omega
          have hSU : S = U := by
            have h1 := HS.out
            have h2 := hU.out
            unfold Sure at h1 h2
            exact Bool.eq_iff_iff.2 (h1.trans h2.symm)
          subst hSU
          go_wp2_with fail
          refine bodyPost_ret (v := .tuple #[.int .u32 N, .bool true, .bool S]) ?_ rfl ⟨rfl, HB.out⟩
          simp [results, Try.results43, asAddr]
set_option maxRecDepth 20000 in
set_option maxHeartbeats 2000000 in
theorem ySee_4 (a : Option Addr) (n c : Nat) (l : List Ac) (hok : Hid (∀ q ∈ l, q.Ok)) (g o ml mc : Nat) (f : Nat → Int) (seq : Int) (A m : Nat) (hA : A ≤ 4294967295) (hml : ml ≤ 140737488355328) (hv : m = 4) (hA0 : A % m = 0) (hAm : A + m ≤ ml) (hfr : Hid (∀ i, i < ml → 0 ≤ f i ∧ f i ≤ 255)) (R : Int) (hR : Hid (R = le (sb l seq n A f) m)) (U : Bool) (hU : Hid (Sure l seq n U)) (hn : n ≤ 140737488355328) (w : World) (hL : Hid (LC w a n c 7 (acs l))) (hM : Hid (Lies w g o ml f)) (hg : Hid (g < w.heap.size)) :
    Calls Try.prog 43 #[.slice a n c, .slice (some ⟨g, o, none⟩) ml mc, .int .i64 seq, .int .u32 A, .int .i64 m] w fun e w' => e = .returned (.tuple #[.int .u32 R, .bool true, .bool U]) ∧ Below w.heap.size w w' := by
  have hm : m = 1 ∨ m = 2 ∨ m = 4 := by omega
  have hlen : Hid (l.length = n) := by have := hL.out.len; rw [acs_len] at this; show _ = _; omega
  have hsr : Hid (∀ i, i < m → 0 ≤ sb l seq n A f i ∧ sb l seq n A f i ≤ 255) := fun i hi => sb_rng (hfr.out _ (by omega))
  have hR2 : Hid (0 ≤ R ∧ R < 4294967296) := by
    show _ ∧ _
    rw [hR.out, ← hiN_le hm]
    have := hiN_rng (s := sb l seq n A f) (m := m) (j := m) (by omega) (Nat.le_refl _) hsr.out
    exact ⟨this.1, this.2.1⟩
  have hAm4 : A + m ≤ 4294967296 := by rcases hm with rfl | rfl | rfl <;> omega
  have hm4 : 1 ≤ m ∧ m ≤ 4 := by omega
  have HM : Hid (m = 1 ∨ m = 2 ∨ m = 4) := hm
  have n1 : ((m : Int) != 1) = true := by rw [hv]; decide
  have n2 : ((m : Int) != 2) = true := by rw [hv]; decide
  have n4 : ((m : Int) != 4) = false := by rw [hv]; decide
  have hm0 : ¬ (m : Int) = 0 := by omega
  have hrem : (A : Int) % (m : Int) = 0 := by omega
  have htm : (A : Int).tmod (m : Int) = 0 := by rw [Int.tmod_eq_emod_of_nonneg (by omega)]; exact hrem
  have hov : decide ((ml : Int) < (A : Int) + (m : Int)) = false := decide_eq_false (by omega)
  clear hm hv hA0
  go_enter Try.func43, Try.ntmps43
  go_wp2_with fail
  go_loopw [13, 14] (fun t i wr => ∃ (j : Nat) (N : Int), j ≤ m ∧ i = .int .i64 ((m : Int) - 1 - j) ∧ t = .int .i64 N ∧ Hid (N = hiN (sb l seq n A f) m j) ∧ Hid (Below w.heap.size w wr))
    (fun _ i _ => (intOf i + 1).toNat)
  case atStart => exact ⟨0, 0, by omega, by go_num, rfl, rfl, Below.refl _ _⟩
  case round =>
    obtain ⟨j, N, hj, rfl, rfl, HN, HB⟩ := hrel
    by_cases hlt : j < m
    · have hN := hiN_rng (s := sb l seq n A f) (m := m) (j := j) (by omega) hj hsr.out
      rw [← HN.out] at hN
      have hN2 := hN.2.2 hlt
      have hN0 := hN.1
      clear hN
      obtain ⟨r, hr⟩ : ∃ r, r = sb l seq n A f (m - 1 - j) := ⟨_, rfl⟩
      have hr2 := hsr.out (m - 1 - j) (by omega)
      rw [← hr] at hr2
      have HN' : Hid (256 * N + r = hiN (sb l seq n A f) m (j + 1)) := by
        show _ = _
        unfold hiN
        rw [HN.out, hr]
      have C := fun w hL hM => yone_any a n c l hok g o ml mc f seq ((A : Int) + ((m : Int) - 1 - j)) (A + (m - 1 - j)) (by omega) (by omega) (by omega) hml hfr r (show _ = _ by rw [hr, sb, show ((A : Int) + ((m : Int) - 1 - j)) = (A : Int) + ((m - 1 - j : Nat) : Int) by omega]) hn w hL hM
      clear hr
      go_wp2_with fail
      refine (C _ (hL.out.below (Nat.le_refl _) HB.out) (fun i hi => (HB.out.cell (p := ⟨g, o + i, none⟩) hg.out).trans (hM.out i hi))).mono ?_
      rintro e W1 ⟨rfl, hk⟩
      have HF : Hid (Below w.heap.size w W1) := HB.out.trans (hk.mono HB.out.size)
      clear hk C
      go_wp2_with fail
      exact ⟨⟨j + 1, _, by omega, by go_num, rfl, HN', HF⟩, by simp [intOf]; omega⟩
    · obtain rfl : j = m := by omega
      have hNR : N = R := by rw [HN.out, hR.out, hiN_le HM.out]
      subst hNR
      obtain ⟨r0, r1⟩ := hR2.out
      have hneg : decide ((0 : Int) ≤ (j : Int) - 1 - j) = false := decide_eq_false (by omega)
      clear HN
      go_wp2_with fail
      go_loopw [16, 17] (fun t i wr => ∃ (k : Nat) (S : Bool), k ≤ n ∧ i = .int .i64 k ∧ t = .bool S ∧ Hid (Sure l seq k S) ∧ Hid (Below w.heap.size w wr))
        (fun _ i _ => n - (intOf i).toNat)
      case atStart => exact ⟨0, true, by omega, rfl, rfl, ⟨fun _ j q hj => absurd hj (by omega), fun _ => rfl⟩, HB⟩
      case round =>
        obtain ⟨k, S, hk, rfl, rfl, HS, HB⟩ := hrel
        by_cases hlt : k < n
        · obtain ⟨q, hq⟩ := atA_ex (l := l) (k := k) (by rw [hlen.out]; exact hlt)
          obtain ⟨bb, oo, rfl, hb, hc⟩ := hL.out.sure (by omega)
          have cc : ∀ j u, (cel q)[j]? = some u → wr.cell? ⟨bb, oo + (k * 7 + j), none⟩ = some u := fun j u hj => (HB.out.cell (p := ⟨bb, oo + (k * 7 + j), none⟩) hb).trans (hc _ _ (acs_at _ _ _ _ _ hq hj))
          have c0 : wr.cell? ⟨bb, oo + k * 7, none⟩ = some (.int .i64 q.seq) := cc 0 _ rfl
          have c1 : wr.cell? ⟨bb, oo + k * 7 + 1, none⟩ = some (.bool q.st) := cc 1 _ rfl
          have c2 : wr.cell? ⟨bb, oo + k * 7 + 2, none⟩ = some (.bool q.kn) := cc 2 _ rfl
          have HQ : Hid (l[k]? = some q) := hq
          clear hc hq cc
          cases h1 : q.st with
          | false =>
            rw [h1] at c1
            have HN : Hid (Sure l seq (k + 1) S) := HS.out.yes HQ.out (unk_no1 (ahd_no1 h1))
            go_wp2_with fail
            exact ⟨⟨k + 1, _, by omega, by go_num, rfl, HN, HB⟩, by simp [intOf]; omega⟩
          | true =>
            rw [h1] at c1
            by_cases h2 : q.seq < seq
            · have h2b : decide (q.seq < seq) = true := decide_eq_true h2
              cases h3 : q.kn with
              | true =>
                rw [h3] at c2
                have HN : Hid (Sure l seq (k + 1) S) := HS.out.yes HQ.out (unk_no2 h3)
                go_wp2_with fail
                exact ⟨⟨k + 1, _, by omega, by go_num, rfl, HN, HB⟩, by simp [intOf]; omega⟩
              | false =>
                rw [h3] at c2
                have HN : Hid (Sure l seq (k + 1) false) := Sure.no HQ.out (unk_yes (ahd_yes h1 (by omega)) h3)
                go_wp2_with fail
                exact ⟨⟨k + 1, _, by omega, by go_num, rfl, HN, HB⟩, by simp [intOf]; omega⟩
            · have h2b : decide (q.seq < seq) = false := decide_eq_false h2
              have HN : Hid (Sure l seq (k + 1) S) := HS.out.yes HQ.out (unk_no1 (ahd_no2 (by omega)))
              go_wp2_with fail
              exact ⟨⟨k + 1, _, by omega, by go_num, rfl, HN, HB⟩, by simp [intOf]; omega⟩
        · obtain rfl : k = n := by omega
          have hSU : S = U := by
            have h1 := HS.out
            have h2 := hU.out
            unfold Sure at h1 h2
            exact Bool.eq_iff_iff.2 (h1.trans h2.symm)
          subst hSU
          go_wp2_with fail
          refine bodyPost_ret (v := .tuple #[.int .u32 N, .bool true, .bool S]) ?_ rfl ⟨rfl, HB.out⟩
          simp [results, Try.results43, asAddr]
theorem ySee_yes (a : Option Addr) (n c : Nat) (l : List Ac) (hok : Hid (∀ q ∈ l, q.Ok)) (g o ml mc : Nat) (f : Nat → Int) (seq : Int) (A m : Nat) (hA : A ≤ 4294967295) (hml : ml ≤ 140737488355328) (hm : m = 1 ∨ m = 2 ∨ m = 4) (hA0 : A % m = 0) (hAm : A + m ≤ ml) (hfr : Hid (∀ i, i < ml → 0 ≤ f i ∧ f i ≤ 255)) (R : Int) (hR : Hid (R = le (sb l seq n A f) m)) (U : Bool) (hU : Hid (Sure l seq n U)) (hn : n ≤ 140737488355328) (w : World) (hL : Hid (LC w a n c 7 (acs l))) (hM : Hid (Lies w g o ml f)) (hg : Hid (g < w.heap.size)) :
    Calls Try.prog 43 #[.slice a n c, .slice (some ⟨g, o, none⟩) ml mc, .int .i64 seq, .int .u32 A, .int .i64 m] w fun e w' => e = .returned (.tuple #[.int .u32 R, .bool true, .bool U]) ∧ Below w.heap.size w w' := by
  rcases hm with h | h | h
  · exact ySee_1 a n c l hok g o ml mc f seq A m hA hml h hA0 hAm hfr R hR U hU hn w hL hM hg
  · exact ySee_2 a n c l hok g o ml mc f seq A m hA hml h hA0 hAm hfr R hR U hU hn w hL hM hg
  · exact ySee_4 a n c l hok g o ml mc f seq A m hA hml h hA0 hAm hfr R hR U hU hn w hL hM hg
end Go.Proofs.Ytpiohehijkpghab
