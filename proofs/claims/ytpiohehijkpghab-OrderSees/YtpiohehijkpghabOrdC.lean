/- Whether two have a byte in common; closures that ask. -/
import Derived.Test.YtpiohehijkpghabOrdB
namespace Go.Proofs.Ytpiohehijkpghab
open Go.RowKit
open Hy
set_option linter.unusedVariables false
set_option maxRecDepth 20000 in
set_option maxHeartbeats 1000000 in
theorem umeet_any (s a : Ac) (hs1 : Hid s.Ok) (ha : Hid a.Ok) (w : World) : Calls Try.prog 79 #[acv s, acv a] w fun e w' => e = .returned (.bool (mt s a)) ∧ Below w.heap.size w w' := by
  obtain ⟨D, hD⟩ : ∃ D : Nat, wd a = D := ⟨(wd a).toNat, by have := wd_rng a; omega⟩
  have hD4 : D ≤ 4 := by have := wd_rng a; omega
  have C := fun w => uwidth_any a w
  rw [hD] at C
  have HD : Hid (wd a = D) := hD
  clear hD
  have p0 := ha.out.p0
  have p1 := ha.out.p1
  go_enter Try.func79, Try.ntmps79
  go_upto_region 1 with fail
  refine two_boxes (Φ := fun W => Code.wp _ _ _ _ W) ?_
  intro W h1 h2 hb hsz
  have B1 : Hid (Box W w.heap.size s) := h1
  have B2 : Hid (Box W (w.heap.size + 1) a) := h2
  have HB0 : Hid (Below w.heap.size w W) := hb
  clear h1 h2 hb
  go_wp2_with (refine wpList_load_row rfl 76 _ rfl _ rfl 76 _ (0, 0) _ B2.out Try.underlying76 rfl info7 ?_)
  refine (C _).mono ?_
  rintro e W1 ⟨rfl, hb⟩
  have HB1 : Hid (Below W.heap.size W W1) := hb
  clear hb C
  go_wp2_with fail
  go_loopw [8] (fun i wr => ∃ k : Nat, k ≤ D ∧ i = .int .u64 k ∧ Hid (Below W.heap.size W wr) ∧ Hid (∀ j : Nat, j < k → hs s (a.pl + j) = false))
    (fun i _ => D - (intOf i).toNat)
  case atStart => exact ⟨0, by omega, rfl, HB1, fun j hj => absurd hj (by omega)⟩
  case round =>
    obtain ⟨k, hk, rfl, HB, HN⟩ := hrel
    have R1 : Hid (Box wr w.heap.size s) := B1.out.below (Nat.le_refl _) HB.out
    have c3 : wr.cell? ⟨w.heap.size + 1, 3, none⟩ = some (.int .u32 a.pl) := (B2.out.below (Nat.le_refl _) HB.out).cell rfl
    by_cases hlt : k < D
    · have C := fun w => uhas_any s hs1.out (a.pl + k) (by omega) (by omega) w
      cases hh : hs s (a.pl + k) with
      | true =>
        rw [hh] at C
        have HM : Hid (mt s a = true) := mt_of hh (decide_eq_true ⟨by omega, by rw [HD.out]; omega⟩)
        clear hh
        go_wp2_with (refine wpList_load_row rfl 76 _ rfl _ rfl 76 _ (0, 0) _ R1.out Try.underlying76 rfl info7 ?_)
        refine (C _).mono ?_
        rintro e W2 ⟨rfl, hb⟩
        have HB2 : Hid (Below w.heap.size w W2) := HB0.out.trans ((HB.out.trans (hb.mono HB.out.size)).mono HB0.out.size)
        clear hb C
        go_wp2_with fail
        go_ret
        exact ⟨by rw [HM.out]; rfl, HB2.out⟩
      | false =>
        rw [hh] at C
        have HN' : Hid (∀ j : Nat, j < k + 1 → hs s (a.pl + j) = false) := fun j hj => by
          by_cases e : j = k
          · rw [e]; exact hh
          · exact HN.out j (by omega)
        clear hh
        go_wp2_with (refine wpList_load_row rfl 76 _ rfl _ rfl 76 _ (0, 0) _ R1.out Try.underlying76 rfl info7 ?_)
        refine (C _).mono ?_
        rintro e W2 ⟨rfl, hb⟩
        have HB2 : Hid (Below W.heap.size W W2) := HB.out.trans (hb.mono HB.out.size)
        clear hb C
        go_wp2_with fail
        exact ⟨⟨k + 1, by omega, by go_num, HB2, HN'⟩, by simp [intOf]; omega⟩
    · have HM : Hid (mt s a = false) := by
        show mt s a = false
        cases hm : mt s a with
        | false => rfl
        | true =>
          obtain ⟨x, _, h1, h2⟩ := mt_ex hm
          simp only [hs, decide_eq_true_eq] at h2
          rw [HD.out] at h2
          have := HN.out (x - a.pl).toNat (by omega)
          rw [show a.pl + ((x - a.pl).toNat : Int) = x by omega, h1] at this
          cases this
      have HB2 : Hid (Below w.heap.size w wr) := HB0.out.trans (HB.out.mono HB0.out.size)
      go_wp2_with fail
      go_ret
      exact ⟨by rw [HM.out]; rfl, HB2.out⟩
/-- A closure that asks one, while what lay in w lies there. -/
def Asks (g : Nat) (b : Nat) (p : Ac → Bool) (w : World) : Prop :=
  ∀ (W : World) (q : Ac), Below w.heap.size w W → Calls Try.prog g #[acv q, .pointer (some ⟨b, 0, none⟩)] W fun e w' => e = .returned (.bool (p q)) ∧ Below W.heap.size W w'
theorem Asks.later {g b : Nat} {p : Ac → Bool} {w W : World} (h : Asks g b p w) (hb : Below w.heap.size w W) : Asks g b p W :=
  fun W' q hb' => h W' q (hb.trans (hb'.mono hb.size))
set_option maxRecDepth 20000 in
theorem asks_unk (B : Nat) (seq : Int) (w : World) (hc : w.cell? ⟨B, 0, none⟩ = some (.int .i64 seq)) : Asks 73 B (unk seq) w := by
  intro W q hb
  have hB : B < w.heap.size := World.block_lt_of_cell? _ _ hc
  have hc1 : W.cell? ⟨B, 0, none⟩ = some (.int .i64 seq) := (hb.cell (p := ⟨B, 0, none⟩) hB).trans hc
  have hB1 : B < W.heap.size := Nat.lt_of_lt_of_le hB hb.size
  clear hb hc hB
  have C := fun w => uahead_any q seq w
  go_enter Try.func73, Try.ntmps73
  go_upto_region 1 with fail
  refine one_box (Φ := fun W => Code.wp _ _ _ _ W) ?_
  intro V h1 hb
  have B1 : Hid (Box V W.heap.size q) := h1
  have HB1 : Hid (Below W.heap.size W V) := hb
  have c1 : V.cell? ⟨B, 0, none⟩ = some (.int .i64 seq) := (hb.cell (p := ⟨B, 0, none⟩) hB1).trans hc1
  clear h1 hb hc1
  cases hh : ahd seq q with
  | true =>
    rw [hh] at C
    have HM : Hid (unk seq q = !q.kn) := by show (_ && _) = _; rw [hh]; rfl
    clear hh
    go_wp2_with (refine wpList_load_row rfl 76 _ rfl _ rfl 76 _ (0, 0) _ B1.out Try.underlying76 rfl info7 ?_)
    refine (C _).mono ?_
    rintro e W2 ⟨rfl, hb⟩
    have HB2 : Hid (Below W.heap.size W W2) := HB1.out.trans (hb.mono HB1.out.size)
    have c2 : W2.cell? ⟨W.heap.size, 2, none⟩ = some (.bool q.kn) := (B1.out.below (Nat.le_refl _) hb).cell rfl
    clear hb C
    go_wp2_with fail
    go_ret
    exact ⟨by rw [HM.out]; rfl, HB2.out⟩
  | false =>
    rw [hh] at C
    have HM : Hid (unk seq q = false) := by show (_ && _) = _; rw [hh]; rfl
    clear hh
    go_wp2_with (refine wpList_load_row rfl 76 _ rfl _ rfl 76 _ (0, 0) _ B1.out Try.underlying76 rfl info7 ?_)
    refine (C _).mono ?_
    rintro e W2 ⟨rfl, hb⟩
    have HB2 : Hid (Below W.heap.size W W2) := HB1.out.trans (hb.mono HB1.out.size)
    clear hb C
    go_wp2_with fail
    go_ret
    exact ⟨by rw [HM.out]; rfl, HB2.out⟩
set_option maxRecDepth 20000 in
theorem asks_sto (B : Nat) (seq : Int) (w : World) (hc : w.cell? ⟨B, 0, none⟩ = some (.int .i64 seq)) : Asks 77 B (sto1 seq) w := by
  intro W q hb
  have hB : B < w.heap.size := World.block_lt_of_cell? _ _ hc
  have hc1 : W.cell? ⟨B, 0, none⟩ = some (.int .i64 seq) := (hb.cell (p := ⟨B, 0, none⟩) hB).trans hc
  have hB1 : B < W.heap.size := Nat.lt_of_lt_of_le hB hb.size
  clear hb hc hB
  obtain ⟨s, t, k, x, m, d, o⟩ := q
  go_enter Try.func77, Try.ntmps77
  go_wp2
  all_goals (go_ret; refine ⟨?_, (Below.refl _ _).alloc (Nat.le_refl _) _⟩; simp_all [sto1] <;> rfl)
theorem eg_unk : ∀ args w, (callFunc 73 args).run Try.prog w = .ok (.enter 73 args) w := enters_of Try.func73 (by kernel_rfl) rfl
theorem eg_sto : ∀ args w, (callFunc 77 args).run Try.prog w = .ok (.enter 77 args) w := enters_of Try.func77 (by kernel_rfl) rfl
set_option maxRecDepth 20000 in
set_option maxHeartbeats 1000000 in
theorem aIndexFunc_any (g b : Nat) (p : Ac → Bool) (eg : ∀ args w, (callFunc g args).run Try.prog w = .ok (.enter g args) w) (a : Option Addr) (n c : Nat) (hn : n ≤ 140737488355328) (l : List Ac) (m : Nat) (hm : Hid (FirstA p l m)) (r : Int) (hr : Hid (r = if m < n then (m : Int) else -1)) (w : World) (hL : Hid (LC w a n c 7 (acs l))) (hA : Hid (Asks g b p w)) :
    Calls Try.prog 76 #[.slice a n c, .func (.func g) #[] #[.pointer (some ⟨b, 0, none⟩)]] w fun e w' => e = .returned (.int .i64 r) ∧ Below w.heap.size w w' := by
  have hlen : Hid (l.length = n) := by have := hL.out.len; rw [acs_len] at this; show _ = _; omega
  have hmn : m ≤ n := by have := hm.out.le; have := hlen.out; omega
  go_enter Try.func76, Try.ntmps76
  go_wp2_with fail
  go_loopw [8] (fun i wr => ∃ k : Nat, k ≤ m ∧ i = .int .i64 k ∧ Hid (Below w.heap.size w wr))
    (fun i _ => n - (intOf i).toNat)
  case atStart => exact ⟨0, by omega, rfl, Below.refl _ _⟩
  case round =>
    obtain ⟨k, hk, rfl, HB⟩ := hrel
    by_cases hlt : k < n
    · obtain ⟨q, hq⟩ := atA_ex (l := l) (k := k) (by rw [hlen.out]; exact hlt)
      obtain ⟨bb, o, rfl, hb, hc⟩ := hL.out.sure (by omega)
      have cc : ∀ j u, (cel q)[j]? = some u → wr.cell? ⟨bb, o + (k * 7 + j), none⟩ = some u := fun j u hj => (HB.out.cell (p := ⟨bb, o + (k * 7 + j), none⟩) hb).trans (hc _ _ (acs_at _ _ _ _ _ hq hj))
      have c0 : wr.cell? ⟨bb, o + k * 7, none⟩ = some (.int .i64 q.seq) := cc 0 _ rfl
      have c1 : wr.cell? ⟨bb, o + k * 7 + 1, none⟩ = some (.bool q.st) := cc 1 _ rfl
      have c2 : wr.cell? ⟨bb, o + k * 7 + 2, none⟩ = some (.bool q.kn) := cc 2 _ rfl
      have c3 : wr.cell? ⟨bb, o + k * 7 + 3, none⟩ = some (.int .u32 q.pl) := cc 3 _ rfl
      have c4 : wr.cell? ⟨bb, o + k * 7 + 4, none⟩ = some (.int .i64 q.many) := cc 4 _ rfl
      have c5 : wr.cell? ⟨bb, o + k * 7 + 5, none⟩ = some (.int .u32 q.data) := cc 5 _ rfl
      have c6 : wr.cell? ⟨bb, o + k * 7 + 6, none⟩ = some (.bool q.done) := cc 6 _ rfl
      have hcall := hA.out wr q HB.out
      by_cases hkm : k = m
      · subst hkm
        have hp : p q = true := hm.out.yes _ hq
        rw [hp] at hcall
        have hrk : r = k := by rw [hr.out, if_pos hlt]
        subst hrk
        clear hc hq hp cc
        go_wp2_with fail
        refine hcall.mono ?_
        rintro e w' ⟨rfl, hb'⟩
        have HB' : Hid (Below w.heap.size w w') := HB.out.trans (hb'.mono HB.out.size)
        clear hcall hb' c0 c1 c2 c3 c4 c5 c6
        go_wp2_with fail
        go_ret
        exact ⟨rfl, HB'.out⟩
      · have hp : p q = false := hm.out.no k _ (by omega) hq
        rw [hp] at hcall
        clear hc hq hp cc
        go_wp2_with fail
        refine hcall.mono ?_
        rintro e w' ⟨rfl, hb'⟩
        have HB' : Hid (Below w.heap.size w w') := HB.out.trans (hb'.mono HB.out.size)
        clear hcall hb' c0 c1 c2 c3 c4 c5 c6
        go_wp2_with fail
        exact ⟨⟨k + 1, by omega, by go_num, HB'⟩, by simp [intOf]; omega⟩
    · have : k = n := by omega
      subst this
      have hrk : r = -1 := by rw [hr.out, if_neg (by omega)]
      subst hrk
      go_wp2_with fail
      go_ret
      exact ⟨rfl, HB.out⟩
set_option maxRecDepth 20000 in
theorem aContainsFunc_any (g b : Nat) (p : Ac → Bool) (eg : ∀ args w, (callFunc g args).run Try.prog w = .ok (.enter g args) w) (a : Option Addr) (n c : Nat) (hn : n ≤ 140737488355328) (l : List Ac) (m : Nat) (hm : Hid (FirstA p l m)) (r : Bool) (hr : Hid (r = decide (m < n))) (w : World) (hL : Hid (LC w a n c 7 (acs l))) (hA : Hid (Asks g b p w)) :
    Calls Try.prog 72 #[.slice a n c, .func (.func g) #[] #[.pointer (some ⟨b, 0, none⟩)]] w fun e w' => e = .returned (.bool r) ∧ Below w.heap.size w w' := by
  obtain ⟨x, hx⟩ : ∃ x, Hid (x = if m < n then (m : Int) else -1) := ⟨_, rfl⟩
  have C := fun w hL hA => aIndexFunc_any g b p eg a n c hn l m hm x hx w hL hA
  have hr2 : Hid (decide (0 ≤ x) = r) := by
    show _ = _
    rw [hr.out, hx.out]
    by_cases h : m < n
    · rw [if_pos h]; simp [h]
    · rw [if_neg h]; simp [h]
  go_enter Try.func72, Try.ntmps72
  go_wp2_with fail
  refine (C _ hL hA).mono ?_
  rintro e w' ⟨rfl, hb⟩
  have HB : Hid (Below w.heap.size w w') := hb
  clear hb C
  go_wp2_with fail
  go_ret
  exact ⟨by simp [hr2.out], HB.out⟩
end Go.Proofs.Ytpiohehijkpghab
