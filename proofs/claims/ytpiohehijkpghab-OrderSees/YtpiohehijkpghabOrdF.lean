/- The first load that has seen too early: the document. -/
import Derived.Test.YtpiohehijkpghabOrdE
namespace Go.Proofs.Ytpiohehijkpghab
open Go.RowKit
open Hy
set_option linter.unusedVariables false
set_option linter.unusedSimpArgs false
theorem wpList_load_row_g {P : Program} {ops : Array Oper} {rest : List Oper} {o : Oper} {a : Act} {w : World} {Q : Exit → Act → World → Prop} (hw : Region.wanted o (yielded ops a.tmps) = true) (ty : TypeId) (x : Operand) (ho : o.op = .load ty x)
    (g : Nat) (hx : a.eval x = .pointer (some ⟨g, 0, none⟩)) (t : TypeId) (cs : Array Value) (fr : Nat × Nat) (d : TypeDesc) (hg : w.heap[g]? = some (.cells cs t fr))
    (hu : P.underlying ty = some d) (hd : (match d with | .struct _ | .array _ _ => true | _ => false) = true) (hi : (P.info? ty).map (·.size) = some cs.size)
    (h : wpList P ops Q rest (a.put o.dst (.agg cs)) w) : wpList P ops Q (o :: rest) a w := by
  unfold wpList
  rw [if_pos hw]
  exact Or.inl (wp_load_row ty x ho g hx t cs fr d hg hu hd hi h)
set_option maxRecDepth 20000 in
theorem yHas_far (p : Ac) (ho : p.Ok) (x : Int) (x0 : 4294967296 ≤ x) (x1 : x ≤ 4294967300) (w : World) : Calls Try.prog 89 #[acv p, .int .i64 x] w fun e w' => e = .returned (.bool false) ∧ Below w.heap.size w w' := by
  obtain ⟨h1, h2, _, _, h3, h4⟩ := ho
  obtain ⟨s, t, k, y, m, d, o⟩ := p
  simp only at h1 h2 h3 h4
  by_cases hm : 4 < m
  · go_enter Try.func89, Try.ntmps89
    go_wp2
    all_goals (go_ret; refine ⟨?_, (Below.refl _ _).alloc (Nat.le_refl _) _⟩; first | rfl | (simp_all <;> omega))
  · go_enter Try.func89, Try.ntmps89
    go_wp2
    all_goals (go_ret; refine ⟨?_, (Below.refl _ _).alloc (Nat.le_refl _) _⟩; first | rfl | (simp_all <;> omega))
theorem inner_no {s q : Ac} {y y' : Int} {f f' : Bool} {j : Nat} (h : (f' = true ∧ y' = q.seq ∧ mt s q = true) ∨ (f' = f ∧ y' = y ∧ ∀ i : Nat, i < j → s.pl + i < 4294967296 → (hs s (s.pl + i) && hs q (s.pl + i)) = false)) (hn : (hs s (s.pl + j) && hs q (s.pl + j)) = false) :
    (f' = true ∧ y' = q.seq ∧ mt s q = true) ∨ (f' = f ∧ y' = y ∧ ∀ i : Nat, i < j + 1 → s.pl + i < 4294967296 → (hs s (s.pl + i) && hs q (s.pl + i)) = false) := by
  rcases h with h | ⟨h1, h2, h3⟩
  · exact .inl h
  · refine .inr ⟨h1, h2, fun i hi hf => ?_⟩
    by_cases e : i = j
    · rw [e]; exact hn
    · exact h3 i (by omega) hf
theorem inner_far {s q : Ac} {y y' : Int} {f f' : Bool} {j : Nat} (h : (f' = true ∧ y' = q.seq ∧ mt s q = true) ∨ (f' = f ∧ y' = y ∧ ∀ i : Nat, i < j → s.pl + i < 4294967296 → (hs s (s.pl + i) && hs q (s.pl + i)) = false)) (hn : ¬ s.pl + j < 4294967296) :
    (f' = true ∧ y' = q.seq ∧ mt s q = true) ∨ (f' = f ∧ y' = y ∧ ∀ i : Nat, i < j + 1 → s.pl + i < 4294967296 → (hs s (s.pl + i) && hs q (s.pl + i)) = false) := by
  rcases h with h | ⟨h1, h2, h3⟩
  · exact .inl h
  · refine .inr ⟨h1, h2, fun i hi hf => ?_⟩
    by_cases e : i = j
    · rw [e] at hf; exact absurd hf hn
    · exact h3 i (by omega) hf
theorem inner_end {s q : Ac} {y y' : Int} {f f' : Bool} {l : List Ac} {k : Nat} (h : (f' = true ∧ y' = q.seq ∧ mt s q = true) ∨ (f' = f ∧ y' = y ∧ ∀ i : Nat, i < 4 → s.pl + i < 4294967296 → (hs s (s.pl + i) && hs q (s.pl + i)) = false))
    (hso : s.Ok) (hqo : q.Ok) (hq : l[k]? = some q) (hT : Told (lst l s k) y f) (hO : ovr s.seq q = true) (hw : f = false ∨ q.seq < y) : Told (lst l s (k + 1)) y' f' := by
  rcases h with ⟨rfl, rfl, hm⟩ | ⟨rfl, rfl, h3⟩
  · have hg : (ovr s.seq q && mt s q) = true := by rw [hO, hm]; rfl
    cases hls : lst l s k with
    | none => exact told_some (lst_first hq hg hls)
    | some z =>
      rw [hls] at hT
      obtain ⟨rfl, rfl⟩ := hT.some'
      exact told_some (lst_less hq hg hls (by simpa using hw))
  · have hm : mt s q = false := by
      cases hm : mt s q with
      | false => rfl
      | true =>
        obtain ⟨x, hx, h1, h2⟩ := mt_ex hm
        have p1 := hso.p1
        have p2 := hqo.p1
        have hr := wd_rng s
        have hh := h1
        simp only [hs, decide_eq_true_eq] at hh
        have := h3 (x - s.pl).toNat (by omega) (by omega)
        rw [show s.pl + ((x - s.pl).toNat : Int) = x by omega, h1, h2] at this
        cases this
    rw [lst_no hq (by rw [hm]; simp)]
    exact hT
theorem told_is {o : Option Int} {y : Int} (h : Told o y true) : o = some y := by
  cases o with
  | none => cases h.1
  | some z => rw [h.some'.1]
theorem ovr_yes {seq : Int} {q : Ac} (h1 : q.st = false) (h2 : q.kn = true) (h3 : q.done = true) (h4 : ¬ q.seq ≤ seq) : ovr seq q = true := by
  unfold ovr; rw [h1, h2, h3]; simp; omega
set_option maxRecDepth 20000 in
set_option maxHeartbeats 2000000 in
theorem yfirst_any (a : Option Addr) (n c : Nat) (l : List Ac) (hok : Hid (∀ q ∈ l, q.Ok)) (s : Ac) (hso : Hid s.Ok) (y0 : Int) (f0 : Bool) (hT : Hid (Told (lst l s n) y0 f0)) (hn : n ≤ 140737488355328) (w : World) (hL : Hid (LC w a n c 7 (acs l))) :
    Calls Try.prog 80 #[.slice a n c, acv s] w fun e w' => e = .returned (.tuple #[.int .i64 y0, .bool f0]) ∧ Below w.heap.size w w' := by
  have hlen : Hid (l.length = n) := by have := hL.out.len; rw [acs_len] at this; show _ = _; omega
  have p0 := hso.out.p0
  have p1 := hso.out.p1
  go_enter Try.func80, Try.ntmps80
  go_upto_region 1 with fail
  refine one_box (Φ := fun W => Code.wp _ _ _ _ W) ?_
  intro W hW hWb
  have BS : Hid (Box W w.heap.size s) := hW
  have HW : Hid (Below w.heap.size w W) := hWb
  clear hW hWb
  go_wp2_with fail
  go_loopw [6, 7, 8] (fun t u i wr => ∃ (k : Nat) (y : Int) (f : Bool), k ≤ n ∧ i = .int .i64 k ∧ t = .int .i64 y ∧ u = .bool f ∧ Hid (Told (lst l s k) y f) ∧ Hid (Below w.heap.size w wr) ∧ Hid (Box wr w.heap.size s))
    (fun _ _ i _ => n - (intOf i).toNat)
  case atStart => exact ⟨0, 0, false, by omega, rfl, rfl, rfl, told_none rfl, HW, BS⟩
  case round =>
    obtain ⟨k, y, f, hk, rfl, rfl, rfl, HT, HB, HBS⟩ := hrel
    by_cases hlt : k < n
    · obtain ⟨q, hq⟩ := atA_ex (l := l) (k := k) (by rw [hlen.out]; exact hlt)
      have hqo : Hid q.Ok := hok.out q (List.mem_of_getElem? hq)
      obtain ⟨bb, o, rfl, hb, hc⟩ := hL.out.sure (by omega)
      have cc : ∀ j u, (cel q)[j]? = some u → wr.cell? ⟨bb, o + (k * 7 + j), none⟩ = some u := fun j u hj => (HB.out.cell (p := ⟨bb, o + (k * 7 + j), none⟩) hb).trans (hc _ _ (acs_at _ _ _ _ _ hq hj))
      have c0 : wr.cell? ⟨bb, o + k * 7, none⟩ = some (.int .i64 q.seq) := cc 0 _ rfl
      have c1 : wr.cell? ⟨bb, o + k * 7 + 1, none⟩ = some (.bool q.st) := cc 1 _ rfl
      have c2 : wr.cell? ⟨bb, o + k * 7 + 2, none⟩ = some (.bool q.kn) := cc 2 _ rfl
      have c3 : wr.cell? ⟨bb, o + k * 7 + 3, none⟩ = some (.int .u32 q.pl) := cc 3 _ rfl
      have c4 : wr.cell? ⟨bb, o + k * 7 + 4, none⟩ = some (.int .i64 q.many) := cc 4 _ rfl
      have c5 : wr.cell? ⟨bb, o + k * 7 + 5, none⟩ = some (.int .u32 q.data) := cc 5 _ rfl
      have c6 : wr.cell? ⟨bb, o + k * 7 + 6, none⟩ = some (.bool q.done) := cc 6 _ rfl
      have HQ : Hid (l[k]? = some q) := hq
      clear hc hq cc
      go_upto_region 7 with fail
      refine one_box (Φ := fun W => Code.wp _ _ _ _ W) ?_
      intro V hV hVb
      have BV : Hid (Box V wr.heap.size q) := hV
      have HBV : Hid (Below w.heap.size w V) := HB.out.trans (hVb.mono HB.out.size)
      have BSV : Hid (Box V w.heap.size s) := HBS.out.below (Nat.le_refl _) hVb
      clear hV hVb HB HBS c0 c1 c2 c3 c4 c5 c6
      have v0 : V.cell? ⟨wr.heap.size, 0, none⟩ = some (.int .i64 q.seq) := BV.out.cell rfl
      have v1 : V.cell? ⟨wr.heap.size, 1, none⟩ = some (.bool q.st) := BV.out.cell rfl
      have v2 : V.cell? ⟨wr.heap.size, 2, none⟩ = some (.bool q.kn) := BV.out.cell rfl
      have v6 : V.cell? ⟨wr.heap.size, 6, none⟩ = some (.bool q.done) := BV.out.cell rfl
      have s0 : V.cell? ⟨w.heap.size, 0, none⟩ = some (.int .i64 s.seq) := BSV.out.cell rfl
      obtain ⟨B, hB⟩ : ∃ B, B = wr.heap.size := ⟨_, rfl⟩
      rw [← hB] at v0 v1 v2 v6 BV ⊢
      clear hB
      cases h1 : q.st with
      | true =>
        rw [h1] at v1
        have HN : Hid (Told (lst l s (k + 1)) y f) := by rw [lst_no HQ.out (by unfold ovr; rw [h1]; rfl)]; exact HT
        go_wp2_with fail
        exact ⟨⟨k + 1, _, _, by omega, by go_num, rfl, rfl, HN, HBV, BSV⟩, by simp [intOf]; omega⟩
      | false =>
        rw [h1] at v1
        cases h2 : q.kn with
        | false =>
          rw [h2] at v2
          have HN : Hid (Told (lst l s (k + 1)) y f) := by rw [lst_no HQ.out (by unfold ovr; rw [h2]; simp)]; exact HT
          go_wp2_with fail
          exact ⟨⟨k + 1, _, _, by omega, by go_num, rfl, rfl, HN, HBV, BSV⟩, by simp [intOf]; omega⟩
        | true =>
          rw [h2] at v2
          cases h3 : q.done with
          | false =>
            rw [h3] at v6
            have HN : Hid (Told (lst l s (k + 1)) y f) := by rw [lst_no HQ.out (by unfold ovr; rw [h3]; simp)]; exact HT
            go_wp2_with fail
            exact ⟨⟨k + 1, _, _, by omega, by go_num, rfl, rfl, HN, HBV, BSV⟩, by simp [intOf]; omega⟩
          | true =>
            rw [h3] at v6
            by_cases h4 : q.seq ≤ s.seq
            · have h4b : decide (q.seq ≤ s.seq) = true := decide_eq_true h4
              have HN : Hid (Told (lst l s (k + 1)) y f) := by rw [lst_no HQ.out (by unfold ovr; simp; intros; omega)]; exact HT
              go_wp2_with fail
              exact ⟨⟨k + 1, _, _, by omega, by go_num, rfl, rfl, HN, HBV, BSV⟩, by simp [intOf]; omega⟩
            · have h4b : decide (q.seq ≤ s.seq) = false := decide_eq_false h4
              have HO : Hid (ovr s.seq q = true) := ovr_yes h1 h2 h3 h4
              clear h1 h2 h3
              cases hf : f with
              | false =>
                subst hf
                go_upto_region 8 with fail
                go_wp2_with fail
                go_loopw [6, 7, 10] (fun t u i wr => ∃ (j : Nat) (y' : Int) (f' : Bool), j ≤ 4 ∧ i = .int .i64 j ∧ t = .int .i64 y' ∧ u = .bool f' ∧ Hid ((f' = true ∧ y' = q.seq ∧ mt s q = true) ∨ (f' = false ∧ y' = y ∧ ∀ i : Nat, i < j → s.pl + i < 4294967296 → (hs s (s.pl + i) && hs q (s.pl + i)) = false)) ∧ Hid (Below V.heap.size V wr))
                  (fun _ _ i _ => 4 - (intOf i).toNat)
                case atStart => exact ⟨0, y, false, by omega, rfl, rfl, rfl, .inr ⟨rfl, rfl, fun i hi => absurd hi (by omega)⟩, Below.refl _ _⟩
                case round =>
                  obtain ⟨j, y', f', hj, rfl, rfl, rfl, HI, HJ⟩ := hrel
                  have RS : Hid (Box wr w.heap.size s) := BSV.out.below (Nat.le_refl _) HJ.out
                  have RQ : Hid (Box wr B q) := BV.out.below (Nat.le_refl _) HJ.out
                  have s3 : wr.cell? ⟨w.heap.size, 3, none⟩ = some (.int .u32 s.pl) := RS.out.cell rfl
                  by_cases hj4 : j < 4
                  · by_cases hfar : s.pl + j < 4294967296
                    · have D1 := fun w => yHas_any s hso.out (s.pl + j) (by omega) (by omega) w
                      have D2 := fun w => yHas_any q hqo.out (s.pl + j) (by omega) (by omega) w
                      cases h1 : hs s (s.pl + j) with
                      | false =>
                        rw [h1] at D1
                        have HI' : Hid ((f' = true ∧ y' = q.seq ∧ mt s q = true) ∨ (f' = false ∧ y' = y ∧ ∀ i : Nat, i < j + 1 → s.pl + i < 4294967296 → (hs s (s.pl + i) && hs q (s.pl + i)) = false)) := inner_no HI.out (by rw [h1]; rfl)
                        clear h1 D2
                        go_wp2_with (refine wpList_load_row rfl 76 _ rfl _ rfl 76 _ (0, 0) _ RS.out Try.underlying76 rfl info7 ?_)
                        refine (D1 _).mono ?_
                        rintro e W1 ⟨rfl, hk⟩
                        have HF : Hid (Below V.heap.size V W1) := HJ.out.trans (hk.mono HJ.out.size)
                        clear hk D1
                        go_wp2_with fail
                        exact ⟨⟨j + 1, _, _, by omega, by go_num, rfl, rfl, HI', HF⟩, by simp [intOf]; omega⟩
                      | true =>
                        rw [h1] at D1
                        cases h2 : hs q (s.pl + j) with
                        | false =>
                          rw [h2] at D2
                          have HI' : Hid ((f' = true ∧ y' = q.seq ∧ mt s q = true) ∨ (f' = false ∧ y' = y ∧ ∀ i : Nat, i < j + 1 → s.pl + i < 4294967296 → (hs s (s.pl + i) && hs q (s.pl + i)) = false)) := inner_no HI.out (by rw [h2]; simp)
                          clear h1 h2
                          go_wp2_with (refine wpList_load_row rfl 76 _ rfl _ rfl 76 _ (0, 0) _ RS.out Try.underlying76 rfl info7 ?_)
                          refine (D1 _).mono ?_
                          rintro e W1 ⟨rfl, hk⟩
                          have HF : Hid (Below V.heap.size V W1) := HJ.out.trans (hk.mono HJ.out.size)
                          have RQ1 : Hid (Box W1 B q) := RQ.out.below (Nat.le_refl _) hk
                          clear hk D1
                          go_wp2_with (refine wpList_load_row_g (by rfl) 76 _ rfl _ rfl 76 _ (0, 0) _ RQ1.out Try.underlying76 rfl info7 ?_)
                          refine (D2 _).mono ?_
                          rintro e W2 ⟨rfl, hk⟩
                          have HF2 : Hid (Below V.heap.size V W2) := HF.out.trans (hk.mono HF.out.size)
                          clear hk D2
                          go_wp2_with fail
                          exact ⟨⟨j + 1, _, _, by omega, by go_num, rfl, rfl, HI', HF2⟩, by simp [intOf]; omega⟩
                        | true =>
                          rw [h2] at D2
                          have HM : Hid (mt s q = true) := mt_of h1 h2
                          clear h1 h2
                          go_wp2_with (refine wpList_load_row rfl 76 _ rfl _ rfl 76 _ (0, 0) _ RS.out Try.underlying76 rfl info7 ?_)
                          refine (D1 _).mono ?_
                          rintro e W1 ⟨rfl, hk⟩
                          have HF : Hid (Below V.heap.size V W1) := HJ.out.trans (hk.mono HJ.out.size)
                          have RQ1 : Hid (Box W1 B q) := RQ.out.below (Nat.le_refl _) hk
                          clear hk D1
                          go_wp2_with (refine wpList_load_row_g (by rfl) 76 _ rfl _ rfl 76 _ (0, 0) _ RQ1.out Try.underlying76 rfl info7 ?_)
                          refine (D2 _).mono ?_
                          rintro e W2 ⟨rfl, hk⟩
                          have HF2 : Hid (Below V.heap.size V W2) := HF.out.trans (hk.mono HF.out.size)
                          have e0 : W2.cell? ⟨B, 0, none⟩ = some (.int .i64 q.seq) := (RQ1.out.below (Nat.le_refl _) hk).cell rfl
                          clear hk D2
                          go_wp2_with fail
                          exact ⟨⟨j + 1, _, _, by omega, by go_num, rfl, rfl, .inl ⟨rfl, rfl, HM.out⟩, HF2⟩, by simp [intOf]; omega⟩
                    · have D1 := fun w => yHas_far s hso.out (s.pl + j) (by omega) (by omega) w
                      have HI' : Hid ((f' = true ∧ y' = q.seq ∧ mt s q = true) ∨ (f' = false ∧ y' = y ∧ ∀ i : Nat, i < j + 1 → s.pl + i < 4294967296 → (hs s (s.pl + i) && hs q (s.pl + i)) = false)) := inner_far HI.out hfar
                      go_wp2_with (refine wpList_load_row rfl 76 _ rfl _ rfl 76 _ (0, 0) _ RS.out Try.underlying76 rfl info7 ?_)
                      refine (D1 _).mono ?_
                      rintro e W1 ⟨rfl, hk⟩
                      have HF : Hid (Below V.heap.size V W1) := HJ.out.trans (hk.mono HJ.out.size)
                      clear hk D1
                      go_wp2_with fail
                      exact ⟨⟨j + 1, _, _, by omega, by go_num, rfl, rfl, HI', HF⟩, by simp [intOf]; omega⟩
                  · obtain rfl : j = 4 := by omega
                    have HN : Hid (Told (lst l s (k + 1)) y' f') := inner_end HI.out hso.out hqo.out HQ.out HT.out HO.out (by exact Or.inl rfl)
                    have HF : Hid (Below w.heap.size w wr) := HBV.out.trans (HJ.out.mono HBV.out.size)
                    have HBS : Hid (Box wr w.heap.size s) := RS
                    go_wp2_with fail
                    exact ⟨⟨k + 1, _, _, by omega, by go_num, rfl, rfl, HN, HF, HBS⟩, by simp [intOf]; omega⟩
              | true =>
                subst hf
                by_cases h5 : q.seq < y
                · have h5b : decide (y ≤ q.seq) = false := decide_eq_false (by omega)
                  go_upto_region 8 with fail
                  go_wp2_with fail
                  go_loopw [6, 7, 10] (fun t u i wr => ∃ (j : Nat) (y' : Int) (f' : Bool), j ≤ 4 ∧ i = .int .i64 j ∧ t = .int .i64 y' ∧ u = .bool f' ∧ Hid ((f' = true ∧ y' = q.seq ∧ mt s q = true) ∨ (f' = true ∧ y' = y ∧ ∀ i : Nat, i < j → s.pl + i < 4294967296 → (hs s (s.pl + i) && hs q (s.pl + i)) = false)) ∧ Hid (Below V.heap.size V wr))
                    (fun _ _ i _ => 4 - (intOf i).toNat)
                  case atStart => exact ⟨0, y, true, by omega, rfl, rfl, rfl, .inr ⟨rfl, rfl, fun i hi => absurd hi (by omega)⟩, Below.refl _ _⟩
                  case round =>
                    obtain ⟨j, y', f', hj, rfl, rfl, rfl, HI, HJ⟩ := hrel
                    have RS : Hid (Box wr w.heap.size s) := BSV.out.below (Nat.le_refl _) HJ.out
                    have RQ : Hid (Box wr B q) := BV.out.below (Nat.le_refl _) HJ.out
                    have s3 : wr.cell? ⟨w.heap.size, 3, none⟩ = some (.int .u32 s.pl) := RS.out.cell rfl
                    by_cases hj4 : j < 4
                    · by_cases hfar : s.pl + j < 4294967296
                      · have D1 := fun w => yHas_any s hso.out (s.pl + j) (by omega) (by omega) w
                        have D2 := fun w => yHas_any q hqo.out (s.pl + j) (by omega) (by omega) w
                        cases h1 : hs s (s.pl + j) with
                        | false =>
                          rw [h1] at D1
                          have HI' : Hid ((f' = true ∧ y' = q.seq ∧ mt s q = true) ∨ (f' = true ∧ y' = y ∧ ∀ i : Nat, i < j + 1 → s.pl + i < 4294967296 → (hs s (s.pl + i) && hs q (s.pl + i)) = false)) := inner_no HI.out (by rw [h1]; rfl)
                          clear h1 D2
                          go_wp2_with (refine wpList_load_row rfl 76 _ rfl _ rfl 76 _ (0, 0) _ RS.out Try.underlying76 rfl info7 ?_)
                          refine (D1 _).mono ?_
                          rintro e W1 ⟨rfl, hk⟩
                          have HF : Hid (Below V.heap.size V W1) := HJ.out.trans (hk.mono HJ.out.size)
                          clear hk D1
                          go_wp2_with fail
                          exact ⟨⟨j + 1, _, _, by omega, by go_num, rfl, rfl, HI', HF⟩, by simp [intOf]; omega⟩
                        | true =>
                          rw [h1] at D1
                          cases h2 : hs q (s.pl + j) with
                          | false =>
                            rw [h2] at D2
                            have HI' : Hid ((f' = true ∧ y' = q.seq ∧ mt s q = true) ∨ (f' = true ∧ y' = y ∧ ∀ i : Nat, i < j + 1 → s.pl + i < 4294967296 → (hs s (s.pl + i) && hs q (s.pl + i)) = false)) := inner_no HI.out (by rw [h2]; simp)
                            clear h1 h2
                            go_wp2_with (refine wpList_load_row rfl 76 _ rfl _ rfl 76 _ (0, 0) _ RS.out Try.underlying76 rfl info7 ?_)
                            refine (D1 _).mono ?_
                            rintro e W1 ⟨rfl, hk⟩
                            have HF : Hid (Below V.heap.size V W1) := HJ.out.trans (hk.mono HJ.out.size)
                            have RQ1 : Hid (Box W1 B q) := RQ.out.below (Nat.le_refl _) hk
                            clear hk D1
                            go_wp2_with (refine wpList_load_row_g (by rfl) 76 _ rfl _ rfl 76 _ (0, 0) _ RQ1.out Try.underlying76 rfl info7 ?_)
                            refine (D2 _).mono ?_
                            rintro e W2 ⟨rfl, hk⟩
                            have HF2 : Hid (Below V.heap.size V W2) := HF.out.trans (hk.mono HF.out.size)
                            clear hk D2
                            go_wp2_with fail
                            exact ⟨⟨j + 1, _, _, by omega, by go_num, rfl, rfl, HI', HF2⟩, by simp [intOf]; omega⟩
                          | true =>
                            rw [h2] at D2
                            have HM : Hid (mt s q = true) := mt_of h1 h2
                            clear h1 h2
                            go_wp2_with (refine wpList_load_row rfl 76 _ rfl _ rfl 76 _ (0, 0) _ RS.out Try.underlying76 rfl info7 ?_)
                            refine (D1 _).mono ?_
                            rintro e W1 ⟨rfl, hk⟩
                            have HF : Hid (Below V.heap.size V W1) := HJ.out.trans (hk.mono HJ.out.size)
                            have RQ1 : Hid (Box W1 B q) := RQ.out.below (Nat.le_refl _) hk
                            clear hk D1
                            go_wp2_with (refine wpList_load_row_g (by rfl) 76 _ rfl _ rfl 76 _ (0, 0) _ RQ1.out Try.underlying76 rfl info7 ?_)
                            refine (D2 _).mono ?_
                            rintro e W2 ⟨rfl, hk⟩
                            have HF2 : Hid (Below V.heap.size V W2) := HF.out.trans (hk.mono HF.out.size)
                            have e0 : W2.cell? ⟨B, 0, none⟩ = some (.int .i64 q.seq) := (RQ1.out.below (Nat.le_refl _) hk).cell rfl
                            clear hk D2
                            go_wp2_with fail
                            exact ⟨⟨j + 1, _, _, by omega, by go_num, rfl, rfl, .inl ⟨rfl, rfl, HM.out⟩, HF2⟩, by simp [intOf]; omega⟩
                      · have D1 := fun w => yHas_far s hso.out (s.pl + j) (by omega) (by omega) w
                        have HI' : Hid ((f' = true ∧ y' = q.seq ∧ mt s q = true) ∨ (f' = true ∧ y' = y ∧ ∀ i : Nat, i < j + 1 → s.pl + i < 4294967296 → (hs s (s.pl + i) && hs q (s.pl + i)) = false)) := inner_far HI.out hfar
                        go_wp2_with (refine wpList_load_row rfl 76 _ rfl _ rfl 76 _ (0, 0) _ RS.out Try.underlying76 rfl info7 ?_)
                        refine (D1 _).mono ?_
                        rintro e W1 ⟨rfl, hk⟩
                        have HF : Hid (Below V.heap.size V W1) := HJ.out.trans (hk.mono HJ.out.size)
                        clear hk D1
                        go_wp2_with fail
                        exact ⟨⟨j + 1, _, _, by omega, by go_num, rfl, rfl, HI', HF⟩, by simp [intOf]; omega⟩
                    · obtain rfl : j = 4 := by omega
                      have HN : Hid (Told (lst l s (k + 1)) y' f') := inner_end HI.out hso.out hqo.out HQ.out HT.out HO.out (by exact Or.inr h5)
                      have HF : Hid (Below w.heap.size w wr) := HBV.out.trans (HJ.out.mono HBV.out.size)
                      have HBS : Hid (Box wr w.heap.size s) := RS
                      go_wp2_with fail
                      exact ⟨⟨k + 1, _, _, by omega, by go_num, rfl, rfl, HN, HF, HBS⟩, by simp [intOf]; omega⟩
                · have h5b : decide (y ≤ q.seq) = true := decide_eq_true (by omega)
                  have HN : Hid (Told (lst l s (k + 1)) y true) := told_some ((lst_more HQ.out (told_is HT.out) (by omega)).trans (told_is HT.out))
                  go_wp2_with fail
                  exact ⟨⟨k + 1, _, _, by omega, by go_num, rfl, rfl, HN, HBV, BSV⟩, by simp [intOf]; omega⟩
    · obtain rfl : k = n := by omega
      obtain ⟨rfl, rfl⟩ : y0 = y ∧ f0 = f := ⟨hT.out.2.trans HT.out.2.symm, hT.out.1.trans HT.out.1.symm⟩
      go_wp2_with fail
      refine bodyPost_ret (v := .tuple #[.int .i64 y0, .bool f0]) ?_ rfl ⟨rfl, HB.out⟩
      simp [results, Try.results80, asAddr]
set_option maxRecDepth 20000 in
set_option maxHeartbeats 1000000 in
theorem yWrong_no (a : Option Addr) (n c : Nat) (seq : Int) (l : List Ac) (hm : Hid (FirstA (sto1 seq) l n)) (hn : n ≤ 140737488355328) (w : World) (hL : Hid (LC w a n c 7 (acs l))) :
    Calls Try.prog 45 #[.slice a n c, .int .i64 seq] w fun e w' => e = .returned (.tuple #[.int .i64 0, .bool false]) ∧ Below w.heap.size w w' := by
  have hlen : Hid (l.length = n) := by have := hL.out.len; rw [acs_len] at this; show _ = _; omega
  go_enter Try.func45, Try.ntmps45
  go_wp2_with fail
  go_loopw [6] (fun i wr => ∃ k : Nat, k ≤ n ∧ i = .int .i64 k ∧ Hid (wr = w))
    (fun i _ => n - (intOf i).toNat)
  case atStart => exact ⟨0, by omega, rfl, rfl⟩
  case round =>
    obtain ⟨k, hk, rfl, HB⟩ := hrel
    obtain rfl := HB.out
    by_cases hlt : k < n
    · obtain ⟨q, hq⟩ := atA_ex (l := l) (k := k) (by rw [hlen.out]; omega)
      obtain ⟨bb, o, rfl, hb, hc⟩ := hL.out.sure (by omega)
      have cc : ∀ j u, (cel q)[j]? = some u → wr.cell? ⟨bb, o + (k * 7 + j), none⟩ = some u := fun j u hj => hc _ _ (acs_at _ _ _ _ _ hq hj)
      have hp : sto1 seq q = false := hm.out.no k _ (by omega) hq
      unfold sto1 at hp
      have c0 : wr.cell? ⟨bb, o + k * 7, none⟩ = some (.int .i64 q.seq) := cc 0 _ rfl
      have c1 : wr.cell? ⟨bb, o + k * 7 + 1, none⟩ = some (.bool q.st) := cc 1 _ rfl
      have c2 : wr.cell? ⟨bb, o + k * 7 + 2, none⟩ = some (.bool q.kn) := cc 2 _ rfl
      clear hc hq cc
      cases h1 : q.st with
      | false =>
        rw [h1] at c1
        clear hp
        go_wp2_with fail
        exact ⟨⟨k + 1, by omega, by go_num, trivial⟩, by simp [intOf]; omega⟩
      | true =>
        rw [h1] at c1
        cases h2 : q.kn with
        | false =>
          rw [h2] at c2
          clear hp
          go_wp2_with fail
          exact ⟨⟨k + 1, by omega, by go_num, trivial⟩, by simp [intOf]; omega⟩
        | true =>
          rw [h2] at c2
          have h3 : (q.seq == seq) = false := by rw [h1, h2] at hp; simpa using hp
          clear hp
          go_wp2_with fail
          exact ⟨⟨k + 1, by omega, by go_num, trivial⟩, by simp [intOf]; omega⟩
    · obtain rfl : k = n := by omega
      go_wp2_with fail
      refine bodyPost_ret (v := .tuple #[.int .i64 0, .bool false]) ?_ rfl ⟨rfl, Below.refl _ _⟩
      simp [results, Try.results45, asAddr]
set_option maxRecDepth 20000 in
set_option maxHeartbeats 1000000 in
theorem yWrong_yes (a : Option Addr) (n c : Nat) (seq : Int) (l : List Ac) (hok : Hid (∀ q ∈ l, q.Ok)) (m : Nat) (hm : Hid (FirstA (sto1 seq) l m)) (hmn : m < n) (s : Ac) (hs : Hid (l[m]? = some s)) (y0 : Int) (f0 : Bool) (hT : Hid (Told (lst l s n) y0 f0)) (hn : n ≤ 140737488355328) (w : World) (hL : Hid (LC w a n c 7 (acs l))) :
    Calls Try.prog 45 #[.slice a n c, .int .i64 seq] w fun e w' => e = .returned (.tuple #[.int .i64 y0, .bool f0]) ∧ Below w.heap.size w w' := by
  have hlen : Hid (l.length = n) := by have := hL.out.len; rw [acs_len] at this; show _ = _; omega
  have hso : Hid s.Ok := hok.out s (List.mem_of_getElem? hs.out)
  have C := fun w hL => yfirst_any a n c l hok s hso y0 f0 hT hn w hL
  go_enter Try.func45, Try.ntmps45
  go_wp2_with fail
  go_loopw [6] (fun i wr => ∃ k : Nat, k ≤ m ∧ i = .int .i64 k ∧ Hid (wr = w))
    (fun i _ => n - (intOf i).toNat)
  case atStart => exact ⟨0, by omega, rfl, rfl⟩
  case round =>
    obtain ⟨k, hk, rfl, HB⟩ := hrel
    obtain rfl := HB.out
    have hkn : k < n := by omega
    by_cases hlt : k < m
    · obtain ⟨q, hq⟩ := atA_ex (l := l) (k := k) (by rw [hlen.out]; omega)
      obtain ⟨bb, o, rfl, hb, hc⟩ := hL.out.sure (by omega)
      have cc : ∀ j u, (cel q)[j]? = some u → wr.cell? ⟨bb, o + (k * 7 + j), none⟩ = some u := fun j u hj => hc _ _ (acs_at _ _ _ _ _ hq hj)
      have hp : sto1 seq q = false := hm.out.no k _ (by omega) hq
      unfold sto1 at hp
      have c0 : wr.cell? ⟨bb, o + k * 7, none⟩ = some (.int .i64 q.seq) := cc 0 _ rfl
      have c1 : wr.cell? ⟨bb, o + k * 7 + 1, none⟩ = some (.bool q.st) := cc 1 _ rfl
      have c2 : wr.cell? ⟨bb, o + k * 7 + 2, none⟩ = some (.bool q.kn) := cc 2 _ rfl
      clear hc hq cc
      cases h1 : q.st with
      | false =>
        rw [h1] at c1
        clear hp
        go_wp2_with fail
        exact ⟨⟨k + 1, by omega, by go_num, trivial⟩, by simp [intOf]; omega⟩
      | true =>
        rw [h1] at c1
        cases h2 : q.kn with
        | false =>
          rw [h2] at c2
          clear hp
          go_wp2_with fail
          exact ⟨⟨k + 1, by omega, by go_num, trivial⟩, by simp [intOf]; omega⟩
        | true =>
          rw [h2] at c2
          have h3 : (q.seq == seq) = false := by rw [h1, h2] at hp; simpa using hp
          clear hp
          go_wp2_with fail
          exact ⟨⟨k + 1, by omega, by go_num, trivial⟩, by simp [intOf]; omega⟩
    · obtain rfl : m = k := by omega
      obtain ⟨bb, o, rfl, hb, hc⟩ := hL.out.sure (by omega)
      have cc : ∀ j u, (cel s)[j]? = some u → wr.cell? ⟨bb, o + (m * 7 + j), none⟩ = some u := fun j u hj => hc _ _ (acs_at _ _ _ _ _ hs.out hj)
      have hp := hm.out.yes _ hs.out
      unfold sto1 at hp
      simp only [Bool.and_eq_true, decide_eq_true_eq] at hp
      obtain ⟨⟨h1, h2⟩, h3⟩ := hp
      obtain ⟨sq, st, kn, pl, many, data, done⟩ := s
      simp only at h1 h2 h3
      subst h1 h2 h3
      have c0 : wr.cell? ⟨bb, o + m * 7, none⟩ = some (.int .i64 sq) := cc 0 _ rfl
      have c1 : wr.cell? ⟨bb, o + m * 7 + 1, none⟩ = some (.bool true) := cc 1 _ rfl
      have c2 : wr.cell? ⟨bb, o + m * 7 + 2, none⟩ = some (.bool true) := cc 2 _ rfl
      have c3 : wr.cell? ⟨bb, o + m * 7 + 3, none⟩ = some (.int .u32 pl) := cc 3 _ rfl
      have c4 : wr.cell? ⟨bb, o + m * 7 + 4, none⟩ = some (.int .i64 many) := cc 4 _ rfl
      have c5 : wr.cell? ⟨bb, o + m * 7 + 5, none⟩ = some (.int .u32 data) := cc 5 _ rfl
      have c6 : wr.cell? ⟨bb, o + m * 7 + 6, none⟩ = some (.bool done) := cc 6 _ rfl
      clear hc cc
      go_wp2_with fail
      refine (C _ hL).mono ?_
      rintro e W1 ⟨rfl, hk1⟩
      clear C
      have HB1 : Hid (Below wr.heap.size wr W1) := hk1
      clear hk1
      go_wp2_with fail
      refine bodyPost_ret (v := .tuple #[.int .i64 y0, .bool f0]) ?_ rfl ⟨rfl, HB1.out⟩
      simp [results, Try.results45, asAddr]
end Go.Proofs.Ytpiohehijkpghab
