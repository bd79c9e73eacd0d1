/- WindowTells, walked. -/
import Derived.Test.YtfhckpeenkaiiabWinH
import Derived.Test.YtfhckpeenkaiiabWinG
import Derived.Test.YtfhckpeenkaiiabWinI
namespace Go.Proofs.Ytfhckpeenkaiiab
open Go.RowKit
set_option linter.unusedVariables false
set_option linter.unusedSimpArgs false
theorem push_both (a : Option Addr) (n c : Nat) (room seq : Int) (l : List Sl) (hl : l.length = n) (hn : n * 16 + 16 ≤ 140737488355328) : ∃ l' ok, l'.length ≤ 140737488355328 ∧
    (∀ w, LC w a n c 2 (scs l) → Calls Try.prog 30 #[.slice a n c, .int .i64 room, .int .i64 seq] w fun e w' => Gives w l' ok e w') ∧
    (∀ w, LC w a n c 2 (scs l) → Calls Try.prog 31 #[.slice a n c, .int .i64 room, .int .i64 seq] w fun e w' => Gives w l' ok e w') := by
  obtain ⟨m, hm⟩ := first_ex (above seq) l
  have hmn : m ≤ n := by have := hm.le; omega
  by_cases h1 : room ≤ n
  · refine ⟨[], false, by simp, fun w _ => pPush_full a n c room seq h1 w, fun w hL => ?_⟩
    by_cases h2 : m < n
    · exact qPush_there a n c room seq l m hm h2 (by omega) w hL
    · obtain rfl : m = n := by omega
      exact qPush_full a m c room seq h1 l hm (by omega) w hL
  · by_cases h2 : m < n
    · exact ⟨[], false, by simp, fun w hL => pPush_there a n c room seq (by omega) l m hm h2 (by omega) w hL, fun w hL => qPush_there a n c room seq l m hm h2 (by omega) w hL⟩
    · obtain rfl : m = n := by omega
      exact ⟨l ++ [(seq, false)], true, by simp; omega, fun w hL => pPush_yes a m c room seq (by omega) l hm hn w hL, fun w hL => qPush_yes a m c room seq (by omega) l hm hn w hL⟩
theorem done_both (a : Option Addr) (n c : Nat) (seq : Int) (l : List Sl) (hl : l.length = n) (hn : n * 16 + 16 ≤ 140737488355328) : ∃ l' ok, l'.length ≤ 140737488355328 ∧
    (∀ w, LC w a n c 2 (scs l) → Calls Try.prog 32 #[.slice a n c, .int .i64 seq] w fun e w' => Gives w l' ok e w') ∧
    (∀ w, LC w a n c 2 (scs l) → Calls Try.prog 33 #[.slice a n c, .int .i64 seq] w fun e w' => Gives w l' ok e w') := by
  obtain ⟨m, hm⟩ := first_ex (waits seq) l
  have hmn : m ≤ n := by have := hm.le; omega
  by_cases h2 : m < n
  · exact ⟨l.set m (seq, true), true, by rw [List.length_set]; omega, fun w hL => pDone_yes a n c seq l m hm h2 (by omega) w hL, fun w hL => qDone_yes a n c seq l m hm h2 (by omega) w hL⟩
  · obtain rfl : m = n := by omega
    exact ⟨[], false, by simp, fun w hL => pDone_no a m c seq l hm (by omega) w hL, fun w hL => qDone_no a m c seq l hm (by omega) w hL⟩
theorem pop_both (a : Option Addr) (n c : Nat) (most : Int) (l : List Sl) (hl : l.length = n) (hn : n * 16 + 16 ≤ 140737488355328) : ∃ l' x, l'.length ≤ 140737488355328 ∧ x.length ≤ 140737488355328 ∧
    (∀ w, LC w a n c 2 (scs l) → Calls Try.prog 35 #[.slice a n c, .int .i64 most] w fun e w' => Gives2 w l' x e w') ∧
    (∀ w, LC w a n c 2 (scs l) → Calls Try.prog 36 #[.slice a n c, .int .i64 most] w fun e w' => Gives2 w l' x e w') := by
  obtain ⟨m, hm⟩ := goes_ex l most
  have hmn : m ≤ n := by have := hm.le; omega
  exact ⟨l.drop m, headS l m, by rw [List.length_drop]; omega, by rw [headS_len hl hmn]; omega, fun w hL => pPop_any a n c most l m hm (by omega) w hL, fun w hL => qPop_any a n c most l m hm (by omega) w hL⟩
theorem cut_both (a : Option Addr) (n c : Nat) (seq : Int) (l : List Sl) (hl : l.length = n) (hn : n * 16 + 16 ≤ 140737488355328) : ∃ l' x, l'.length ≤ 140737488355328 ∧ x.length ≤ 140737488355328 ∧
    (∀ w, LC w a n c 2 (scs l) → Calls Try.prog 37 #[.slice a n c, .int .i64 seq] w fun e w' => Gives2 w l' x e w') ∧
    (∀ w, LC w a n c 2 (scs l) → Calls Try.prog 38 #[.slice a n c, .int .i64 seq] w fun e w' => Gives2 w l' x e w') := by
  have h := cut_len l seq
  exact ⟨stayS l seq, cutS l seq, by omega, by omega, fun w hL => pCut_any a n c seq l (by omega) w hL, fun w hL => qCut_any a n c seq l (by omega) w hL⟩
set_option maxRecDepth 20000 in
set_option maxHeartbeats 4000000 in
theorem windows (a : Option Addr) (n c : Nat) (room seq most : Int) (l : List Sl) (hn : n * 16 + 16 ≤ 140737488355328) (w : World) (hL : Hid (LC w a n c 2 (scs l))) :
    Calls Try.prog 8 #[.slice a n c, .int .i64 room, .int .i64 seq, .int .i64 most] w fun e w' => e = .returned (.bool true) ∧ Below w.heap.size w w' := by
  have hlen : l.length = n := by have := hL.out.len; rw [scs_len] at this; omega
  obtain ⟨l1, ok1, few1, P1, P2⟩ := push_both a n c room seq l hlen hn
  obtain ⟨l2, ok2, few2, D1, D2⟩ := done_both a n c seq l hlen hn
  obtain ⟨l3, x3, few3, gew3, O1, O2⟩ := pop_both a n c most l hlen hn
  obtain ⟨l4, x4, few4, gew4, C1, C2⟩ := cut_both a n c seq l hlen hn
  have hb1 : (ok1 != ok1) = false := by simp
  have hb2 : (ok2 != ok2) = false := by simp
  have L_0 : Hid (LC w a n c 2 (scs l)) := hL
  have B_0 : Hid (Below w.heap.size w w) := Below.refl _ _
  clear hL hlen
  go_enter Try.func8, Try.ntmps8
  go_wp2_with fail
  refine (P1 _ L_0.out).mono ?_
  rintro e V1 ⟨⟨ap1, cp1, rfl, hl, _⟩, hk⟩
  have L_1 : Hid (LC V1 a n c 2 (scs l)) := L_0.out.below (Nat.le_refl _) hk
  have B_1 : Hid (Below w.heap.size w V1) := B_0.out.trans (hk.mono B_0.out.size)
  clear hk B_0 L_0
  have p1_1 : Hid (LC V1 ap1 l1.length cp1 2 (scs l1)) := hl
  clear hl
  go_wp2_with fail
  refine (P2 _ L_1.out).mono ?_
  rintro e V2 ⟨⟨aq1, cq1, rfl, hl, _⟩, hk⟩
  have L_2 : Hid (LC V2 a n c 2 (scs l)) := L_1.out.below (Nat.le_refl _) hk
  have p1_2 : Hid (LC V2 ap1 l1.length cp1 2 (scs l1)) := p1_1.out.below (Nat.le_refl _) hk
  have B_2 : Hid (Below w.heap.size w V2) := B_1.out.trans (hk.mono B_1.out.size)
  clear hk B_1 L_1 p1_1
  have q1_2 : Hid (LC V2 aq1 l1.length cq1 2 (scs l1)) := hl
  clear hl
  go_wp2_with fail
  refine (D1 _ L_2.out).mono ?_
  rintro e V3 ⟨⟨ap2, cp2, rfl, hl, _⟩, hk⟩
  have L_3 : Hid (LC V3 a n c 2 (scs l)) := L_2.out.below (Nat.le_refl _) hk
  have p1_3 : Hid (LC V3 ap1 l1.length cp1 2 (scs l1)) := p1_2.out.below (Nat.le_refl _) hk
  have q1_3 : Hid (LC V3 aq1 l1.length cq1 2 (scs l1)) := q1_2.out.below (Nat.le_refl _) hk
  have B_3 : Hid (Below w.heap.size w V3) := B_2.out.trans (hk.mono B_2.out.size)
  clear hk B_2 L_2 p1_2 q1_2
  have p2_3 : Hid (LC V3 ap2 l2.length cp2 2 (scs l2)) := hl
  clear hl
  go_wp2_with fail
  refine (D2 _ L_3.out).mono ?_
  rintro e V4 ⟨⟨aq2, cq2, rfl, hl, _⟩, hk⟩
  have L_4 : Hid (LC V4 a n c 2 (scs l)) := L_3.out.below (Nat.le_refl _) hk
  have p1_4 : Hid (LC V4 ap1 l1.length cp1 2 (scs l1)) := p1_3.out.below (Nat.le_refl _) hk
  have q1_4 : Hid (LC V4 aq1 l1.length cq1 2 (scs l1)) := q1_3.out.below (Nat.le_refl _) hk
  have p2_4 : Hid (LC V4 ap2 l2.length cp2 2 (scs l2)) := p2_3.out.below (Nat.le_refl _) hk
  have B_4 : Hid (Below w.heap.size w V4) := B_3.out.trans (hk.mono B_3.out.size)
  clear hk B_3 L_3 p1_3 q1_3 p2_3
  have q2_4 : Hid (LC V4 aq2 l2.length cq2 2 (scs l2)) := hl
  clear hl
  go_wp2_with fail
  refine (qSlots_yes _ _ _ _ _ few1 l1 _ p1_4 q1_4).mono ?_
  rintro e V5 ⟨rfl, hk⟩
  have L_5 : Hid (LC V5 a n c 2 (scs l)) := L_4.out.below (Nat.le_refl _) hk
  have p1_5 : Hid (LC V5 ap1 l1.length cp1 2 (scs l1)) := p1_4.out.below (Nat.le_refl _) hk
  have q1_5 : Hid (LC V5 aq1 l1.length cq1 2 (scs l1)) := q1_4.out.below (Nat.le_refl _) hk
  have p2_5 : Hid (LC V5 ap2 l2.length cp2 2 (scs l2)) := p2_4.out.below (Nat.le_refl _) hk
  have q2_5 : Hid (LC V5 aq2 l2.length cq2 2 (scs l2)) := q2_4.out.below (Nat.le_refl _) hk
  have B_5 : Hid (Below w.heap.size w V5) := B_4.out.trans (hk.mono B_4.out.size)
  clear hk B_4 L_4 p1_4 q1_4 p2_4 q2_4
  go_wp2_with fail
  refine (qSlots_yes _ _ _ _ _ few2 l2 _ p2_5 q2_5).mono ?_
  rintro e V6 ⟨rfl, hk⟩
  have L_6 : Hid (LC V6 a n c 2 (scs l)) := L_5.out.below (Nat.le_refl _) hk
  have p1_6 : Hid (LC V6 ap1 l1.length cp1 2 (scs l1)) := p1_5.out.below (Nat.le_refl _) hk
  have q1_6 : Hid (LC V6 aq1 l1.length cq1 2 (scs l1)) := q1_5.out.below (Nat.le_refl _) hk
  have p2_6 : Hid (LC V6 ap2 l2.length cp2 2 (scs l2)) := p2_5.out.below (Nat.le_refl _) hk
  have q2_6 : Hid (LC V6 aq2 l2.length cq2 2 (scs l2)) := q2_5.out.below (Nat.le_refl _) hk
  have B_6 : Hid (Below w.heap.size w V6) := B_5.out.trans (hk.mono B_5.out.size)
  clear hk B_5 L_5 p1_5 q1_5 p2_5 q2_5
  go_wp2_with fail
  refine (O1 _ L_6.out).mono ?_
  rintro e V7 ⟨⟨ap3, cp3, ay3, cy3, rfl, hl, _, hm, _⟩, hk⟩
  have L_7 : Hid (LC V7 a n c 2 (scs l)) := L_6.out.below (Nat.le_refl _) hk
  have p1_7 : Hid (LC V7 ap1 l1.length cp1 2 (scs l1)) := p1_6.out.below (Nat.le_refl _) hk
  have q1_7 : Hid (LC V7 aq1 l1.length cq1 2 (scs l1)) := q1_6.out.below (Nat.le_refl _) hk
  have p2_7 : Hid (LC V7 ap2 l2.length cp2 2 (scs l2)) := p2_6.out.below (Nat.le_refl _) hk
  have q2_7 : Hid (LC V7 aq2 l2.length cq2 2 (scs l2)) := q2_6.out.below (Nat.le_refl _) hk
  have B_7 : Hid (Below w.heap.size w V7) := B_6.out.trans (hk.mono B_6.out.size)
  clear hk B_6 L_6 p1_6 q1_6 p2_6 q2_6
  have p3_7 : Hid (LC V7 ap3 l3.length cp3 2 (scs l3)) := hl
  clear hl
  have y3_7 : Hid (LC V7 ay3 x3.length cy3 1 (ics x3)) := hm
  clear hm
  go_wp2_with fail
  refine (O2 _ L_7.out).mono ?_
  rintro e V8 ⟨⟨aq3, cq3, az3, cz3, rfl, hl, _, hm, _⟩, hk⟩
  have L_8 : Hid (LC V8 a n c 2 (scs l)) := L_7.out.below (Nat.le_refl _) hk
  have p1_8 : Hid (LC V8 ap1 l1.length cp1 2 (scs l1)) := p1_7.out.below (Nat.le_refl _) hk
  have q1_8 : Hid (LC V8 aq1 l1.length cq1 2 (scs l1)) := q1_7.out.below (Nat.le_refl _) hk
  have p2_8 : Hid (LC V8 ap2 l2.length cp2 2 (scs l2)) := p2_7.out.below (Nat.le_refl _) hk
  have q2_8 : Hid (LC V8 aq2 l2.length cq2 2 (scs l2)) := q2_7.out.below (Nat.le_refl _) hk
  have p3_8 : Hid (LC V8 ap3 l3.length cp3 2 (scs l3)) := p3_7.out.below (Nat.le_refl _) hk
  have y3_8 : Hid (LC V8 ay3 x3.length cy3 1 (ics x3)) := y3_7.out.below (Nat.le_refl _) hk
  have B_8 : Hid (Below w.heap.size w V8) := B_7.out.trans (hk.mono B_7.out.size)
  clear hk B_7 L_7 p1_7 q1_7 p2_7 q2_7 p3_7 y3_7
  have q3_8 : Hid (LC V8 aq3 l3.length cq3 2 (scs l3)) := hl
  clear hl
  have z3_8 : Hid (LC V8 az3 x3.length cz3 1 (ics x3)) := hm
  clear hm
  go_wp2_with fail
  refine (C1 _ L_8.out).mono ?_
  rintro e V9 ⟨⟨ap4, cp4, ay4, cy4, rfl, hl, _, hm, _⟩, hk⟩
  have L_9 : Hid (LC V9 a n c 2 (scs l)) := L_8.out.below (Nat.le_refl _) hk
  have p1_9 : Hid (LC V9 ap1 l1.length cp1 2 (scs l1)) := p1_8.out.below (Nat.le_refl _) hk
  have q1_9 : Hid (LC V9 aq1 l1.length cq1 2 (scs l1)) := q1_8.out.below (Nat.le_refl _) hk
  have p2_9 : Hid (LC V9 ap2 l2.length cp2 2 (scs l2)) := p2_8.out.below (Nat.le_refl _) hk
  have q2_9 : Hid (LC V9 aq2 l2.length cq2 2 (scs l2)) := q2_8.out.below (Nat.le_refl _) hk
  have p3_9 : Hid (LC V9 ap3 l3.length cp3 2 (scs l3)) := p3_8.out.below (Nat.le_refl _) hk
  have y3_9 : Hid (LC V9 ay3 x3.length cy3 1 (ics x3)) := y3_8.out.below (Nat.le_refl _) hk
  have q3_9 : Hid (LC V9 aq3 l3.length cq3 2 (scs l3)) := q3_8.out.below (Nat.le_refl _) hk
  have z3_9 : Hid (LC V9 az3 x3.length cz3 1 (ics x3)) := z3_8.out.below (Nat.le_refl _) hk
  have B_9 : Hid (Below w.heap.size w V9) := B_8.out.trans (hk.mono B_8.out.size)
  clear hk B_8 L_8 p1_8 q1_8 p2_8 q2_8 p3_8 y3_8 q3_8 z3_8
  have p4_9 : Hid (LC V9 ap4 l4.length cp4 2 (scs l4)) := hl
  clear hl
  have y4_9 : Hid (LC V9 ay4 x4.length cy4 1 (ics x4)) := hm
  clear hm
  go_wp2_with fail
  refine (C2 _ L_9.out).mono ?_
  rintro e V10 ⟨⟨aq4, cq4, az4, cz4, rfl, hl, _, hm, _⟩, hk⟩
  have L_10 : Hid (LC V10 a n c 2 (scs l)) := L_9.out.below (Nat.le_refl _) hk
  have p1_10 : Hid (LC V10 ap1 l1.length cp1 2 (scs l1)) := p1_9.out.below (Nat.le_refl _) hk
  have q1_10 : Hid (LC V10 aq1 l1.length cq1 2 (scs l1)) := q1_9.out.below (Nat.le_refl _) hk
  have p2_10 : Hid (LC V10 ap2 l2.length cp2 2 (scs l2)) := p2_9.out.below (Nat.le_refl _) hk
  have q2_10 : Hid (LC V10 aq2 l2.length cq2 2 (scs l2)) := q2_9.out.below (Nat.le_refl _) hk
  have p3_10 : Hid (LC V10 ap3 l3.length cp3 2 (scs l3)) := p3_9.out.below (Nat.le_refl _) hk
  have y3_10 : Hid (LC V10 ay3 x3.length cy3 1 (ics x3)) := y3_9.out.below (Nat.le_refl _) hk
  have q3_10 : Hid (LC V10 aq3 l3.length cq3 2 (scs l3)) := q3_9.out.below (Nat.le_refl _) hk
  have z3_10 : Hid (LC V10 az3 x3.length cz3 1 (ics x3)) := z3_9.out.below (Nat.le_refl _) hk
  have p4_10 : Hid (LC V10 ap4 l4.length cp4 2 (scs l4)) := p4_9.out.below (Nat.le_refl _) hk
  have y4_10 : Hid (LC V10 ay4 x4.length cy4 1 (ics x4)) := y4_9.out.below (Nat.le_refl _) hk
  have B_10 : Hid (Below w.heap.size w V10) := B_9.out.trans (hk.mono B_9.out.size)
  clear hk B_9 L_9 p1_9 q1_9 p2_9 q2_9 p3_9 y3_9 q3_9 z3_9 p4_9 y4_9
  have q4_10 : Hid (LC V10 aq4 l4.length cq4 2 (scs l4)) := hl
  clear hl
  have z4_10 : Hid (LC V10 az4 x4.length cz4 1 (ics x4)) := hm
  clear hm
  go_wp2_with fail
  refine (qSlots_yes _ _ _ _ _ few3 l3 _ p3_10 q3_10).mono ?_
  rintro e V11 ⟨rfl, hk⟩
  have L_11 : Hid (LC V11 a n c 2 (scs l)) := L_10.out.below (Nat.le_refl _) hk
  have p1_11 : Hid (LC V11 ap1 l1.length cp1 2 (scs l1)) := p1_10.out.below (Nat.le_refl _) hk
  have q1_11 : Hid (LC V11 aq1 l1.length cq1 2 (scs l1)) := q1_10.out.below (Nat.le_refl _) hk
  have p2_11 : Hid (LC V11 ap2 l2.length cp2 2 (scs l2)) := p2_10.out.below (Nat.le_refl _) hk
  have q2_11 : Hid (LC V11 aq2 l2.length cq2 2 (scs l2)) := q2_10.out.below (Nat.le_refl _) hk
  have p3_11 : Hid (LC V11 ap3 l3.length cp3 2 (scs l3)) := p3_10.out.below (Nat.le_refl _) hk
  have y3_11 : Hid (LC V11 ay3 x3.length cy3 1 (ics x3)) := y3_10.out.below (Nat.le_refl _) hk
  have q3_11 : Hid (LC V11 aq3 l3.length cq3 2 (scs l3)) := q3_10.out.below (Nat.le_refl _) hk
  have z3_11 : Hid (LC V11 az3 x3.length cz3 1 (ics x3)) := z3_10.out.below (Nat.le_refl _) hk
  have p4_11 : Hid (LC V11 ap4 l4.length cp4 2 (scs l4)) := p4_10.out.below (Nat.le_refl _) hk
  have y4_11 : Hid (LC V11 ay4 x4.length cy4 1 (ics x4)) := y4_10.out.below (Nat.le_refl _) hk
  have q4_11 : Hid (LC V11 aq4 l4.length cq4 2 (scs l4)) := q4_10.out.below (Nat.le_refl _) hk
  have z4_11 : Hid (LC V11 az4 x4.length cz4 1 (ics x4)) := z4_10.out.below (Nat.le_refl _) hk
  have B_11 : Hid (Below w.heap.size w V11) := B_10.out.trans (hk.mono B_10.out.size)
  clear hk B_10 L_10 p1_10 q1_10 p2_10 q2_10 p3_10 y3_10 q3_10 z3_10 p4_10 y4_10 q4_10 z4_10
  go_wp2_with fail
  refine (qInts_yes _ _ _ _ _ gew3 x3 _ y3_11 z3_11).mono ?_
  rintro e V12 ⟨rfl, hk⟩
  have L_12 : Hid (LC V12 a n c 2 (scs l)) := L_11.out.below (Nat.le_refl _) hk
  have p1_12 : Hid (LC V12 ap1 l1.length cp1 2 (scs l1)) := p1_11.out.below (Nat.le_refl _) hk
  have q1_12 : Hid (LC V12 aq1 l1.length cq1 2 (scs l1)) := q1_11.out.below (Nat.le_refl _) hk
  have p2_12 : Hid (LC V12 ap2 l2.length cp2 2 (scs l2)) := p2_11.out.below (Nat.le_refl _) hk
  have q2_12 : Hid (LC V12 aq2 l2.length cq2 2 (scs l2)) := q2_11.out.below (Nat.le_refl _) hk
  have p3_12 : Hid (LC V12 ap3 l3.length cp3 2 (scs l3)) := p3_11.out.below (Nat.le_refl _) hk
  have y3_12 : Hid (LC V12 ay3 x3.length cy3 1 (ics x3)) := y3_11.out.below (Nat.le_refl _) hk
  have q3_12 : Hid (LC V12 aq3 l3.length cq3 2 (scs l3)) := q3_11.out.below (Nat.le_refl _) hk
  have z3_12 : Hid (LC V12 az3 x3.length cz3 1 (ics x3)) := z3_11.out.below (Nat.le_refl _) hk
  have p4_12 : Hid (LC V12 ap4 l4.length cp4 2 (scs l4)) := p4_11.out.below (Nat.le_refl _) hk
  have y4_12 : Hid (LC V12 ay4 x4.length cy4 1 (ics x4)) := y4_11.out.below (Nat.le_refl _) hk
  have q4_12 : Hid (LC V12 aq4 l4.length cq4 2 (scs l4)) := q4_11.out.below (Nat.le_refl _) hk
  have z4_12 : Hid (LC V12 az4 x4.length cz4 1 (ics x4)) := z4_11.out.below (Nat.le_refl _) hk
  have B_12 : Hid (Below w.heap.size w V12) := B_11.out.trans (hk.mono B_11.out.size)
  clear hk B_11 L_11 p1_11 q1_11 p2_11 q2_11 p3_11 y3_11 q3_11 z3_11 p4_11 y4_11 q4_11 z4_11
  go_wp2_with fail
  refine (qSlots_yes _ _ _ _ _ few4 l4 _ p4_12 q4_12).mono ?_
  rintro e V13 ⟨rfl, hk⟩
  have L_13 : Hid (LC V13 a n c 2 (scs l)) := L_12.out.below (Nat.le_refl _) hk
  have p1_13 : Hid (LC V13 ap1 l1.length cp1 2 (scs l1)) := p1_12.out.below (Nat.le_refl _) hk
  have q1_13 : Hid (LC V13 aq1 l1.length cq1 2 (scs l1)) := q1_12.out.below (Nat.le_refl _) hk
  have p2_13 : Hid (LC V13 ap2 l2.length cp2 2 (scs l2)) := p2_12.out.below (Nat.le_refl _) hk
  have q2_13 : Hid (LC V13 aq2 l2.length cq2 2 (scs l2)) := q2_12.out.below (Nat.le_refl _) hk
  have p3_13 : Hid (LC V13 ap3 l3.length cp3 2 (scs l3)) := p3_12.out.below (Nat.le_refl _) hk
  have y3_13 : Hid (LC V13 ay3 x3.length cy3 1 (ics x3)) := y3_12.out.below (Nat.le_refl _) hk
  have q3_13 : Hid (LC V13 aq3 l3.length cq3 2 (scs l3)) := q3_12.out.below (Nat.le_refl _) hk
  have z3_13 : Hid (LC V13 az3 x3.length cz3 1 (ics x3)) := z3_12.out.below (Nat.le_refl _) hk
  have p4_13 : Hid (LC V13 ap4 l4.length cp4 2 (scs l4)) := p4_12.out.below (Nat.le_refl _) hk
  have y4_13 : Hid (LC V13 ay4 x4.length cy4 1 (ics x4)) := y4_12.out.below (Nat.le_refl _) hk
  have q4_13 : Hid (LC V13 aq4 l4.length cq4 2 (scs l4)) := q4_12.out.below (Nat.le_refl _) hk
  have z4_13 : Hid (LC V13 az4 x4.length cz4 1 (ics x4)) := z4_12.out.below (Nat.le_refl _) hk
  have B_13 : Hid (Below w.heap.size w V13) := B_12.out.trans (hk.mono B_12.out.size)
  clear hk B_12 L_12 p1_12 q1_12 p2_12 q2_12 p3_12 y3_12 q3_12 z3_12 p4_12 y4_12 q4_12 z4_12
  go_wp2_with fail
  refine (qInts_yes _ _ _ _ _ gew4 x4 _ y4_13 z4_13).mono ?_
  rintro e V14 ⟨rfl, hk⟩
  have L_14 : Hid (LC V14 a n c 2 (scs l)) := L_13.out.below (Nat.le_refl _) hk
  have p1_14 : Hid (LC V14 ap1 l1.length cp1 2 (scs l1)) := p1_13.out.below (Nat.le_refl _) hk
  have q1_14 : Hid (LC V14 aq1 l1.length cq1 2 (scs l1)) := q1_13.out.below (Nat.le_refl _) hk
  have p2_14 : Hid (LC V14 ap2 l2.length cp2 2 (scs l2)) := p2_13.out.below (Nat.le_refl _) hk
  have q2_14 : Hid (LC V14 aq2 l2.length cq2 2 (scs l2)) := q2_13.out.below (Nat.le_refl _) hk
  have p3_14 : Hid (LC V14 ap3 l3.length cp3 2 (scs l3)) := p3_13.out.below (Nat.le_refl _) hk
  have y3_14 : Hid (LC V14 ay3 x3.length cy3 1 (ics x3)) := y3_13.out.below (Nat.le_refl _) hk
  have q3_14 : Hid (LC V14 aq3 l3.length cq3 2 (scs l3)) := q3_13.out.below (Nat.le_refl _) hk
  have z3_14 : Hid (LC V14 az3 x3.length cz3 1 (ics x3)) := z3_13.out.below (Nat.le_refl _) hk
  have p4_14 : Hid (LC V14 ap4 l4.length cp4 2 (scs l4)) := p4_13.out.below (Nat.le_refl _) hk
  have y4_14 : Hid (LC V14 ay4 x4.length cy4 1 (ics x4)) := y4_13.out.below (Nat.le_refl _) hk
  have q4_14 : Hid (LC V14 aq4 l4.length cq4 2 (scs l4)) := q4_13.out.below (Nat.le_refl _) hk
  have z4_14 : Hid (LC V14 az4 x4.length cz4 1 (ics x4)) := z4_13.out.below (Nat.le_refl _) hk
  have B_14 : Hid (Below w.heap.size w V14) := B_13.out.trans (hk.mono B_13.out.size)
  clear hk B_13 L_13 p1_13 q1_13 p2_13 q2_13 p3_13 y3_13 q3_13 z3_13 p4_13 y4_13 q4_13 z4_13
  go_wp2_with fail
  go_ret
  exact ⟨rfl, B_14.out⟩
end Go.Proofs.Ytfhckpeenkaiiab
