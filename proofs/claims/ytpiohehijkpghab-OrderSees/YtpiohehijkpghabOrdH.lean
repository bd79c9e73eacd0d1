/- The byte that a load sees: the document. -/
import Derived.Test.YtpiohehijkpghabOrdF
namespace Go.Proofs.Ytpiohehijkpghab
open Go.RowKit
open Hy
set_option linter.unusedVariables false
set_option linter.unusedSimpArgs false
/-- What is told of a byte. -/
structure Oned (l : List Ac) (seq z M : Int) (k : Nat) (N : Int) (F : Bool) (B : Int) : Prop where
  num : N = seen l seq z M k
  found : F = (bst l seq z k).isSome
  best : ∀ j q, bst l seq z k = some j → l[j]? = some q → B = q.seq
theorem Oned.stay {l : List Ac} {seq z M N B : Int} {k : Nat} {F : Bool} (h : Oned l seq z M k N F B) (he : bst l seq z (k + 1) = bst l seq z k) : Oned l seq z M (k + 1) N F B :=
  ⟨h.num.trans (by unfold seen; rw [he]), h.found.trans (by rw [he]), fun j q hj => h.best j q (he ▸ hj)⟩
theorem Oned.new {l : List Ac} {seq z M : Int} {k : Nat} {q : Ac} (hq : l[k]? = some q) (he : bst l seq z (k + 1) = some k) : Oned l seq z M (k + 1) (byt q z) true q.seq :=
  ⟨(seen_some he hq).symm, by rw [he]; rfl, fun j q' hj hq' => by rw [he] at hj; cases hj; rw [hq] at hq'; cases hq'; rfl⟩
theorem Oned.is {l : List Ac} {seq z M N B : Int} {k : Nat} (h : Oned l seq z M k N true B) : ∃ j q, bst l seq z k = some j ∧ l[j]? = some q ∧ q.seq = B := by
  cases hb : bst l seq z k with
  | none => have := h.found; rw [hb] at this; cases this
  | some j =>
    obtain ⟨_, q, hq, _⟩ := bst_lt _ _ _ _ _ hb
    exact ⟨j, q, rfl, hq, (h.best j q hb hq).symm⟩
theorem Oned.isnt {l : List Ac} {seq z M N B : Int} {k : Nat} (h : Oned l seq z M k N false B) : bst l seq z k = none := by
  cases hb : bst l seq z k with
  | none => rfl
  | some j => have := h.found; rw [hb] at this; cases this
theorem ahd_no1 {seq : Int} {q : Ac} (h : q.st = false) : ahd seq q = false := by unfold ahd; rw [h]; rfl
theorem ahd_no2 {seq : Int} {q : Ac} (h : seq ≤ q.seq) : ahd seq q = false := by unfold ahd; simp; intro _; exact h
theorem ahd_yes {seq : Int} {q : Ac} (h1 : q.st = true) (h2 : ¬ seq ≤ q.seq) : ahd seq q = true := by unfold ahd; rw [h1]; simp; omega
theorem byt_num {D T : Int} (d0 : 0 ≤ D) (t0 : 0 < T) : (D / T).tmod 256 = D / T % 256 := by
  rw [Int.tmod_eq_emod_of_nonneg (Int.ediv_nonneg d0 (by omega))]
set_option maxRecDepth 20000 in
set_option maxHeartbeats 2000000 in
theorem yone_any (a : Option Addr) (n c : Nat) (l : List Ac) (hok : Hid (∀ q ∈ l, q.Ok)) (g o ml mc : Nat) (f : Nat → Int) (seq z : Int) (X : Nat) (hz : z = X) (hX : X < ml) (hX2 : X ≤ 4294967295) (hml : ml ≤ 140737488355328) (hfr : Hid (∀ i, i < ml → 0 ≤ f i ∧ f i ≤ 255)) (r : Int) (hr : Hid (r = seen l seq z (f X) n)) (hn : n ≤ 140737488355328) (w : World) (hL : Hid (LC w a n c 7 (acs l))) (hM : Hid (Lies w g o ml f)) :
    Calls Try.prog 75 #[.slice a n c, .slice (some ⟨g, o, none⟩) ml mc, .int .i64 seq, .int .i64 z] w fun e w' => e = .returned (.int .i64 r) ∧ Below w.heap.size w w' := by
  subst hz
  have hlen : Hid (l.length = n) := by have := hL.out.len; rw [acs_len] at this; show _ = _; omega
  have cM := hM.out X hX
  have bM := hfr.out X hX
  obtain ⟨M, hMM⟩ : ∃ M, M = f X := ⟨_, rfl⟩
  obtain ⟨z, hZ⟩ : ∃ z : Int, z = X := ⟨_, rfl⟩
  have HZ : Hid (z = X) := hZ
  rw [← hMM, ← hZ] at hr
  rw [← hMM] at cM bM
  clear hMM
  have z0 : 0 ≤ z := by omega
  have z1 : z ≤ 4294967295 := by omega
  go_enter Try.func75, Try.ntmps75
  go_wp2_with fail
  rw [← hZ]
  clear cM hZ
  go_loopw [9, 10, 11, 12] (fun s t u i wr => ∃ (k : Nat) (N : Int) (F : Bool) (B : Int), k ≤ n ∧ i = .int .i64 k ∧ s = .int .i64 N ∧ t = .bool F ∧ u = .int .i64 B ∧ Hid (Oned l seq z M k N F B) ∧ Hid (Below w.heap.size w wr))
    (fun _ _ _ i _ => n - (intOf i).toNat)
  case atStart => exact ⟨0, M, false, 0, by omega, rfl, rfl, rfl, rfl, ⟨rfl, rfl, fun j q hj => by cases hj⟩, Below.refl _ _⟩
  case round =>
    obtain ⟨k, N, F, B, hk, rfl, rfl, rfl, rfl, HT, HB⟩ := hrel
    by_cases hlt : k < n
    · obtain ⟨q, hq⟩ := atA_ex (l := l) (k := k) (by rw [hlen.out]; exact hlt)
      have hqo : Hid q.Ok := hok.out q (List.mem_of_getElem? hq)
      obtain ⟨bb, oo, rfl, hb, hc⟩ := hL.out.sure (by omega)
      have cc : ∀ j u, (cel q)[j]? = some u → wr.cell? ⟨bb, oo + (k * 7 + j), none⟩ = some u := fun j u hj => (HB.out.cell (p := ⟨bb, oo + (k * 7 + j), none⟩) hb).trans (hc _ _ (acs_at _ _ _ _ _ hq hj))
      have c0 : wr.cell? ⟨bb, oo + k * 7, none⟩ = some (.int .i64 q.seq) := cc 0 _ rfl
      have c1 : wr.cell? ⟨bb, oo + k * 7 + 1, none⟩ = some (.bool q.st) := cc 1 _ rfl
      have c2 : wr.cell? ⟨bb, oo + k * 7 + 2, none⟩ = some (.bool q.kn) := cc 2 _ rfl
      have c3 : wr.cell? ⟨bb, oo + k * 7 + 3, none⟩ = some (.int .u32 q.pl) := cc 3 _ rfl
      have c4 : wr.cell? ⟨bb, oo + k * 7 + 4, none⟩ = some (.int .i64 q.many) := cc 4 _ rfl
      have c5 : wr.cell? ⟨bb, oo + k * 7 + 5, none⟩ = some (.int .u32 q.data) := cc 5 _ rfl
      have c6 : wr.cell? ⟨bb, oo + k * 7 + 6, none⟩ = some (.bool q.done) := cc 6 _ rfl
      have HQ : Hid (l[k]? = some q) := hq
      clear hc hq cc
      go_upto_region 8 with fail
      refine one_box (Φ := fun W => Code.wp _ _ _ _ W) ?_
      intro V hV hVb
      have BV : Hid (Box V wr.heap.size q) := hV
      have HBV : Hid (Below w.heap.size w V) := HB.out.trans (hVb.mono HB.out.size)
      clear hV hVb HB c0 c1 c2 c3 c4 c5 c6
      have v0 : V.cell? ⟨wr.heap.size, 0, none⟩ = some (.int .i64 q.seq) := BV.out.cell rfl
      have v1 : V.cell? ⟨wr.heap.size, 1, none⟩ = some (.bool q.st) := BV.out.cell rfl
      have v2 : V.cell? ⟨wr.heap.size, 2, none⟩ = some (.bool q.kn) := BV.out.cell rfl
      obtain ⟨b0, hB⟩ : ∃ b0, b0 = wr.heap.size := ⟨_, rfl⟩
      rw [← hB] at v0 v1 v2 BV ⊢
      clear hB
      cases h1 : q.st with
      | false =>
        rw [h1] at v1
        have HN : Hid (Oned l seq z M (k + 1) N F B) := HT.out.stay (bst_no HQ.out (gv_no1 (ahd_no1 h1)))
        go_wp2_with fail
        exact ⟨⟨k + 1, _, _, _, by omega, by go_num, rfl, rfl, rfl, HN, HBV⟩, by simp [intOf]; omega⟩
      | true =>
        rw [h1] at v1
        cases h2 : q.kn with
        | false =>
          rw [h2] at v2
          have HN : Hid (Oned l seq z M (k + 1) N F B) := HT.out.stay (bst_no HQ.out (gv_no2 h2))
          go_wp2_with fail
          exact ⟨⟨k + 1, _, _, _, by omega, by go_num, rfl, rfl, rfl, HN, HBV⟩, by simp [intOf]; omega⟩
        | true =>
          rw [h2] at v2
          by_cases h3 : seq ≤ q.seq
          · have h3b : decide (seq ≤ q.seq) = true := decide_eq_true h3
            have HN : Hid (Oned l seq z M (k + 1) N F B) := HT.out.stay (bst_no HQ.out (gv_no1 (ahd_no2 h3)))
            go_wp2_with fail
            exact ⟨⟨k + 1, _, _, _, by omega, by go_num, rfl, rfl, rfl, HN, HBV⟩, by simp [intOf]; omega⟩
          · have h3b : decide (seq ≤ q.seq) = false := decide_eq_false h3
            have D := fun w => yHas_any q hqo.out z z0 z1 w
            cases h4 : hs q z with
            | false =>
              rw [h4] at D
              have HN : Hid (Oned l seq z M (k + 1) N F B) := HT.out.stay (bst_no HQ.out (gv_no3 h4))
              clear h1 h2 h4
              go_wp2_with (refine wpList_load_row_g (by rfl) 76 _ rfl _ rfl 76 _ (0, 0) _ BV.out Try.underlying76 rfl info7 ?_)
              refine (D _).mono ?_
              rintro e W1 ⟨rfl, hk1⟩
              have HF : Hid (Below w.heap.size w W1) := HBV.out.trans (hk1.mono HBV.out.size)
              have B1 : Hid (Box W1 b0 q) := BV.out.below (Nat.le_refl _) hk1
              clear hk1 D
              have u0 : W1.cell? ⟨b0, 0, none⟩ = some (.int .i64 q.seq) := B1.out.cell rfl
              go_wp2_with fail
              exact ⟨⟨k + 1, _, _, _, by omega, by go_num, rfl, rfl, rfl, HN, HF⟩, by simp [intOf]; omega⟩
            | true =>
              rw [h4] at D
              have HG : Hid (gv seq z q = true) := gv_yes (ahd_yes h1 h3) h2 h4
              have hsx : q.pl ≤ z ∧ z < q.pl + wd q := by simpa [hs] using h4
              have hw4 := wd_rng q
              obtain ⟨i, hi⟩ : ∃ i : Nat, z = q.pl + i := ⟨(z - q.pl).toNat, by omega⟩
              have hi4 : i < 4 := by omega
              have p0 := hqo.out.p0
              have p1 := hqo.out.p1
              have d0 := hqo.out.d0
              have d1 := hqo.out.d1
              obtain ⟨P, hp⟩ : ∃ P, P = q.pl := ⟨_, rfl⟩
              obtain ⟨DD, hd⟩ : ∃ D, D = q.data := ⟨_, rfl⟩
              have hP : Hid (q.pl = P) := hp.symm
              have hDD : Hid (q.data = DD) := hd.symm
              obtain ⟨T, hT⟩ : ∃ T, T = two (8 * i) := ⟨_, rfl⟩
              have t0 : 0 < T := by rw [hT]; exact two_pos _
              have t1 : T ≤ 4294967296 := by rw [hT]; exact two_le _ (by omega)
              have E := fun w => rPower_any (8 * i) (by omega) w
              rw [← hT, show ((8 * i : Nat) : Int) = 8 * (z - P) by rw [hp]; omega] at E
              have HV : Hid ((DD / T).tmod 256 = byt q z) := by
                show _ = _
                rw [byt_num (by omega) t0, byt, show (z - q.pl).toNat = i by omega, hT, hd]
              rw [← hp] at p0 p1 hi
              rw [← hd] at d0 d1
              have hz0 : P ≤ z := by omega
              have hz3 : z ≤ P + 3 := by omega
              clear h1 h2 h4 hsx hw4 hT hp hd hi hi4
              cases hF : F with
              | false =>
                subst hF
                have HN : Hid (Oned l seq z M (k + 1) (byt q z) true q.seq) := Oned.new HQ.out (bst_first HQ.out HG.out HT.out.isnt)
                go_wp2_with (refine wpList_load_row_g (by rfl) 76 _ rfl _ rfl 76 _ (0, 0) _ BV.out Try.underlying76 rfl info7 ?_)
                refine (D _).mono ?_
                rintro e W1 ⟨rfl, hk1⟩
                have HF : Hid (Below w.heap.size w W1) := HBV.out.trans (hk1.mono HBV.out.size)
                have B1 : Hid (Box W1 b0 q) := BV.out.below (Nat.le_refl _) hk1
                clear hk1 D
                have u0 : W1.cell? ⟨b0, 0, none⟩ = some (.int .i64 q.seq) := B1.out.cell rfl
                have u3 : W1.cell? ⟨b0, 3, none⟩ = some (.int .u32 P) := hP.out ▸ B1.out.cell rfl
                have u5 : W1.cell? ⟨b0, 5, none⟩ = some (.int .u32 DD) := hDD.out ▸ B1.out.cell rfl
                go_upto_region 11 with fail
                go_quiet (first | (go_at_call 90; exact Calls.quiet_of_same (E _)))
                clear E u0 u3 u5
                go_wp2_with fail
                rw [HV.out]
                exact ⟨⟨k + 1, _, _, _, by omega, by go_num, rfl, rfl, rfl, HN, below_drewN HF.out nq⟩, by simp [intOf]; omega⟩
              | true =>
                subst hF
                obtain ⟨j, q1, e1, e2, e3⟩ := HT.out.is
                by_cases h5 : q.seq < B
                · have h5b : decide (q.seq < B) = true := decide_eq_true h5
                  have HN : Hid (Oned l seq z M (k + 1) N true B) := HT.out.stay (bst_less HQ.out e1 e2 (by omega))
                  clear e1 e2 e3 E
                  go_wp2_with (refine wpList_load_row_g (by rfl) 76 _ rfl _ rfl 76 _ (0, 0) _ BV.out Try.underlying76 rfl info7 ?_)
                  refine (D _).mono ?_
                  rintro e W1 ⟨rfl, hk1⟩
                  have HF : Hid (Below w.heap.size w W1) := HBV.out.trans (hk1.mono HBV.out.size)
                  have B1 : Hid (Box W1 b0 q) := BV.out.below (Nat.le_refl _) hk1
                  clear hk1 D
                  have u0 : W1.cell? ⟨b0, 0, none⟩ = some (.int .i64 q.seq) := B1.out.cell rfl
                  go_wp2_with fail
                  exact ⟨⟨k + 1, _, _, _, by omega, by go_num, rfl, rfl, rfl, HN, HF⟩, by simp [intOf]; omega⟩
                · have h5b : decide (q.seq < B) = false := decide_eq_false h5
                  have HN : Hid (Oned l seq z M (k + 1) (byt q z) true q.seq) := Oned.new HQ.out (bst_more HQ.out HG.out e1 e2 (by omega))
                  clear e1 e2 e3
                  go_wp2_with (refine wpList_load_row_g (by rfl) 76 _ rfl _ rfl 76 _ (0, 0) _ BV.out Try.underlying76 rfl info7 ?_)
                  refine (D _).mono ?_
                  rintro e W1 ⟨rfl, hk1⟩
                  have HF : Hid (Below w.heap.size w W1) := HBV.out.trans (hk1.mono HBV.out.size)
                  have B1 : Hid (Box W1 b0 q) := BV.out.below (Nat.le_refl _) hk1
                  clear hk1 D
                  have u0 : W1.cell? ⟨b0, 0, none⟩ = some (.int .i64 q.seq) := B1.out.cell rfl
                  have u3 : W1.cell? ⟨b0, 3, none⟩ = some (.int .u32 P) := hP.out ▸ B1.out.cell rfl
                  have u5 : W1.cell? ⟨b0, 5, none⟩ = some (.int .u32 DD) := hDD.out ▸ B1.out.cell rfl
                  go_upto_region 11 with fail
                  go_quiet (first | (go_at_call 90; exact Calls.quiet_of_same (E _)))
                  clear E u0 u3 u5
                  go_wp2_with fail
                  rw [HV.out]
                  exact ⟨⟨k + 1, _, _, _, by omega, by go_num, rfl, rfl, rfl, HN, below_drewN HF.out nq⟩, by simp [intOf]; omega⟩
    · obtain rfl : k = n := by omega
      have hrN : Hid (r = N) := hr.out.trans HT.out.num.symm
      go_wp2_with fail
      go_ret
      exact ⟨ret_int hrN.out.symm, HB.out⟩
end Go.Proofs.Ytpiohehijkpghab
