/- WindowOrders, walked. -/
import Derived.Test.YtfhckpeenkaiiabWinF
import Derived.Deep.DeepCutAuto
import Derived.Deep.CutBlock
namespace Go.Proofs.Ytfhckpeenkaiiab
open Go.RowKit
set_option linter.unusedVariables false
set_option linter.unusedSimpArgs false
/-- Bytes, as memory holds them. -/
structure BytesAt (w : World) (a : Option Addr) (n c : Nat) (g : Nat → Int) : Prop where
  few : n ≤ 140737488355328
  byte : ∀ i, i < n → 0 ≤ g i ∧ g i ≤ 255
  ad : 0 < n → ∃ b o, a = some ⟨b, o, none⟩ ∧ b < w.heap.size ∧ ∀ i, i < n → w.cell? ⟨b, o + i, none⟩ = some (.int .u8 (g i))
/-- Where the acts have come to. -/
structure Wd (w wr : World) (room : Int) (k : Nat) (l : List Sl) (seq last : Int) (a : Option Addr) (c : Nat) : Prop where
  lc : LC wr a l.length c 2 (scs l)
  ord : Ord l seq last
  few : l.length ≤ k
  room : (l.length : Int) ≤ max room 0
  low : -1 ≤ last
  high : seq ≤ k
  bel : Below w.heap.size w wr
theorem first_none {p : Sl → Bool} {l : List Sl} (h : ∀ q ∈ l, p q = false) : First p l l.length :=
  ⟨Nat.le_refl _, fun j q _ hq => h q (List.mem_of_getElem? hq), fun q hq => by rw [List.getElem?_eq_none (Nat.le_refl _)] at hq; cases hq⟩
theorem Ord.fresh {l : List Sl} {seq last : Int} (h : Ord l seq last) : First (above seq) l l.length := first_none fun q hq => by have := h.hi q hq; simp [above]; omega
/-- Done, of the program: a window of the same numbers, or none. -/
theorem done_prog (a : Option Addr) (c : Nat) (l : List Sl) (hn : l.length ≤ 200) (sq : Int) : ∃ l' ok, (ok = true → l'.map (·.1) = l.map (·.1)) ∧
    ∀ w, LC w a l.length c 2 (scs l) → Calls Try.prog 32 #[.slice a l.length c, .int .i64 sq] w fun e w' => Gives w l' ok e w' := by
  obtain ⟨m, hm⟩ := first_ex (waits sq) l
  by_cases h2 : m < l.length
  · refine ⟨l.set m (sq, true), true, fun _ => ?_, fun w hL => pDone_yes a l.length c sq l m hm h2 (by omega) w hL⟩
    obtain ⟨s, d, hsd⟩ := at_ex h2
    have := hm.yes _ hsd
    simp [waits] at this
    exact set_map l m sq true (by rw [hsd]; simp [this.1])
  · obtain rfl : m = l.length := by have := hm.le; omega
    exact ⟨[], false, fun h => (nomatch h), fun w hL => pDone_no a l.length c sq l hm (by omega) w hL⟩
theorem below_drewN {B : Nat} {a w : World} (h : Below B a w) (q : Nat) : Below B a (w.drewN q) := ⟨h.os, h.tape, h.output, h.size, h.block⟩
theorem len_map {l l' : List Sl} (h : l'.map (·.1) = l.map (·.1)) : l'.length = l.length := by have := congrArg List.length h; simpa using this
theorem headS_get {l : List Sl} {m j : Nat} {s : Int} {d : Bool} (hj : j < m) (h : l[j]? = some (s, d)) : (headS l m)[j]? = some s := by
  unfold headS
  rw [List.getElem?_map, List.getElem?_take, if_pos hj, h]
  rfl
set_option maxRecDepth 20000 in
set_option maxHeartbeats 8000000 in
theorem orders (room : Int) (b : Option Addr) (ln lc : Nat) (g : Nat → Int) (w : World) (hG : Hid (BytesAt w b ln lc g)) :
    Calls Try.prog 9 #[.int .i64 room, .slice b ln lc] w fun e w' => e = .returned (.bool true) ∧ Below w.heap.size w w' := by
  have lfew := hG.out.few
  go_enter Try.func9, Try.ntmps9
  go_wp2_with fail
  go_loopw [5, 6, 7, 8] (fun lv sv tv i wr => ∃ (k : Nat) (l : List Sl) (seq last : Int) (a : Option Addr) (c : Nat), k ≤ ln ∧ k ≤ 200 ∧ i = .int .i64 k ∧ lv = .slice a l.length c ∧ sv = .int .i64 seq ∧ tv = .int .i64 last ∧ Hid (Wd w wr room k l seq last a c))
    (fun _ _ _ i _ => 200 - (intOf i).toNat)
  case atStart => exact ⟨0, [], 0, -1, none, 0, by omega, by omega, rfl, rfl, rfl, rfl, ⟨lc_none _ _, ord_nil, Nat.le_refl _, by simp; omega, by omega, by omega, Below.refl _ _⟩⟩
  case round =>
    obtain ⟨k, l, seq, last, a, c, kl, k2, rfl, rfl, rfl, rfl, HW⟩ := hrel
    obtain ⟨hs1, hs2, hs3⟩ : seq ≤ k ∧ -1 ≤ last ∧ last < seq := ⟨HW.out.high, HW.out.low, HW.out.ord.lt⟩
    have hfew := HW.out.few
    by_cases hlt : k < ln ∧ k < 200
    · obtain ⟨hlt1, hlt2⟩ := hlt
      obtain ⟨bb, oo, rfl, hbb, hcell⟩ := hG.out.ad (by omega)
      obtain ⟨x0, x1⟩ := hG.out.byte k hlt1
      have cb : wr.cell? ⟨bb, oo + k, none⟩ = some (.int .u8 (g k)) := (HW.out.bel.cell (p := ⟨bb, oo + k, none⟩) hbb).trans (hcell k hlt1)
      clear hcell
      generalize g k = x at *
      go_upto_block 2 with fail
      go_cut [5, 6, 7, 44] (fun lv sv tv _ wc => ∃ (l : List Sl) (seq last : Int) (a : Option Addr) (c : Nat), lv = .slice a l.length c ∧ sv = .int .i64 seq ∧ tv = .int .i64 last ∧ Hid (Wd w wc room (k + 1) l seq last a c))
      case first =>
        obtain h4 | h4 | h4 | h4 : x % 4 = 0 ∨ x % 4 = 1 ∨ x % 4 = 2 ∨ x % 4 = 3 := by omega
        · by_cases hr : (l.length : Int) < room
          · have C := pPush_yes a l.length c room seq hr l HW.out.ord.fresh (by omega) wr HW.out.lc
            have hr2 : decide ((l.length : Int) < room) = true := by simpa using hr
            go_wp2_with fail
            refine C.mono ?_
            rintro e V ⟨⟨a1, c1, rfl, hl, _⟩, hk⟩
            have HW2 : Hid (Wd w V room (k + 1) (l ++ [(seq, false)]) (seq + 1) last a1 c1) := ⟨hl, HW.out.ord.push, by simp; omega, by have := HW.out.room; simp; omega, hs2, by omega, HW.out.bel.trans (hk.mono HW.out.bel.size)⟩
            clear hl hk C
            go_wp2_with fail
            go_meet
            exact ⟨l ++ [(seq, false)], seq + 1, last, a1, c1, by simp, by go_num, rfl, HW2⟩
          · have C := pPush_full a l.length c room seq (by omega) wr
            have hr2 : decide ((l.length : Int) < room) = false := by simpa using hr
            go_wp2_with fail
            refine C.mono ?_
            rintro e V ⟨⟨a1, c1, rfl, hl, _⟩, hk⟩
            have HW2 : Hid (Wd w V room (k + 1) l seq last a c) := ⟨HW.out.lc.below (Nat.le_refl _) hk, HW.out.ord, by omega, HW.out.room, hs2, by omega, HW.out.bel.trans (hk.mono HW.out.bel.size)⟩
            clear hl hk C
            go_wp2_with fail
            go_meet
            exact ⟨l, seq, last, a, c, rfl, rfl, rfl, HW2⟩
        · obtain ⟨l', ok, hmp, C⟩ := done_prog a c l (by omega) (last + 1 + x / 4 % 4)
          go_wp2_with fail
          refine (C wr HW.out.lc).mono ?_
          rintro e V ⟨⟨a1, c1, rfl, hl, _⟩, hk⟩
          cases ok with
          | true =>
            have HW2 : Hid (Wd w V room (k + 1) l' seq last a1 c1) := ⟨hl, HW.out.ord.of_map (hmp rfl), by rw [len_map (hmp rfl)]; omega, by rw [len_map (hmp rfl)]; exact HW.out.room, hs2, by omega, HW.out.bel.trans (hk.mono HW.out.bel.size)⟩
            clear hl hk C hmp
            go_wp2_with fail
            go_meet
            exact ⟨l', seq, last, a1, c1, rfl, rfl, rfl, HW2⟩
          | false =>
            have HW2 : Hid (Wd w V room (k + 1) l seq last a c) := ⟨HW.out.lc.below (Nat.le_refl _) hk, HW.out.ord, by omega, HW.out.room, hs2, by omega, HW.out.bel.trans (hk.mono HW.out.bel.size)⟩
            clear hl hk C hmp
            go_wp2_with fail
            go_meet
            exact ⟨l, seq, last, a, c, rfl, rfl, rfl, HW2⟩
        · obtain ⟨m, hm⟩ := goes_ex l (1 + x / 4 % 3)
          have hml := hm.le
          have C := pPop_any a l.length c (1 + x / 4 % 3) l m hm (by omega) wr HW.out.lc
          have eN : (l.drop m).length = l.length - m := List.length_drop ..
          have eM : (headS l m).length = m := headS_len rfl hml
          clear hm
          go_wp2_with fail
          refine C.mono ?_
          rintro e V ⟨⟨a1, c1, a2, c2, rfl, hl, _, hg, _⟩, hk⟩
          rw [eM] at hg ⊢
          have HL1 : Hid (LC V a1 (l.drop m).length c1 2 (scs (l.drop m))) := hl
          have HG1 : Hid (LC V a2 m c2 1 (ics (headS l m))) := hg
          have HBV : Hid (Below w.heap.size w V) := HW.out.bel.trans (hk.mono HW.out.bel.size)
          have HN : Hid ((l.drop m).length + m = l.length) := by show _ = _; omega
          clear hl hg hk C eM eN
          generalize hNN : (l.drop m).length = N at *
          have HN2 : Hid ((l.drop m).length = N) := hNN
          have hsum : (N : Int) + (m : Int) = (l.length : Int) := by have := HN.out; omega
          clear hNN
          go_wp2_with fail
          go_loopw [7, 16] (fun tv i wr2 => ∃ (j : Nat) (t : Int), j ≤ m ∧ i = .int .i64 j ∧ tv = .int .i64 t ∧ Hid (-1 ≤ t ∧ Ord (l.drop j) seq t) ∧ Hid (wr2 = V))
            (fun _ i _ => m - (intOf i).toNat)
          case atStart => exact ⟨0, last, by omega, rfl, rfl, ⟨hs2, by simpa using HW.out.ord⟩, rfl⟩
          case round =>
            obtain ⟨j, t, hj, rfl, rfl, HO, HV⟩ := hrel
            obtain rfl := HV.out
            by_cases hjm : j < m
            · obtain ⟨s, d, hsd⟩ := at_ex (l := l) (k := j) (by omega)
              obtain ⟨b2, o2, rfl, hb2, hc2⟩ := HG1.out.sure (by omega)
              have c0 := hc2 _ _ (ics_get (headS_get hjm hsd))
              obtain ⟨ho1, ho2⟩ := HO.out
              rw [drop_at hsd] at ho2
              have hts : t < s := ho2.lo _ (List.mem_cons_self ..)
              have HO2 : Hid (-1 ≤ s ∧ Ord (l.drop (j + 1)) seq s) := ⟨by omega, ho2.tail⟩
              clear hc2 hsd ho2 HO
              go_wp2_with fail
              exact ⟨⟨j + 1, s, by omega, by go_num, rfl, HO2, trivial⟩, by simp [intOf]; omega⟩
            · have : j = m := by omega
              subst this
              have HW2 : Hid (Wd w wr room (k + 1) (l.drop j) seq t a1 c1) := ⟨by rw [HN2.out]; exact HL1.out, HO.out.2, by have := HN.out; rw [HN2.out]; omega, by have := HN.out; have := HW.out.room; rw [HN2.out]; omega, HO.out.1, by omega, HBV.out⟩
              go_wp2_with fail
              go_meet
              exact ⟨l.drop j, seq, t, a1, c1, by rw [HN2.out], rfl, rfl, HW2⟩
        · obtain ⟨fr, hfr⟩ : ∃ fr, last + 1 + x / 4 % 8 = fr := ⟨_, rfl⟩
          have C := pCut_any a l.length c fr l (by omega) wr HW.out.lc
          have hcl := cut_len l fr
          have HO : Hid (Ord l seq last) := HW.out.ord
          go_wp2_with fail
          refine C.mono ?_
          rintro e V ⟨⟨a1, c1, a2, c2, rfl, hl, _, hg, _⟩, hk⟩
          have HL1 : Hid (LC V a1 (stayS l fr).length c1 2 (scs (stayS l fr))) := hl
          have HG1 : Hid (LC V a2 (cutS l fr).length c2 1 (ics (cutS l fr))) := hg
          have HBV : Hid (Below w.heap.size w V) := HW.out.bel.trans (hk.mono HW.out.bel.size)
          have HCL : Hid ((stayS l fr).length + (cutS l fr).length = l.length) := hcl
          have HR : Hid ((l.length : Int) ≤ max room 0) := HW.out.room
          clear hl hg hk C hcl HW cb
          generalize hNN : (stayS l fr).length = N at *
          generalize hMM : (cutS l fr).length = M at *
          have HN2 : Hid ((stayS l fr).length = N) := hNN
          have HM2 : Hid ((cutS l fr).length = M) := hMM
          have hsum : (N : Int) + (M : Int) = (l.length : Int) := by have := HCL.out; omega
          have hMk : M ≤ 200 := by have := HCL.out; omega
          clear hNN hMM
          go_wp2_with fail
          go_loopw [20] (fun i wr2 => ∃ (j : Nat), j ≤ M ∧ i = .int .i64 j ∧ Hid (Below V.heap.size V wr2))
            (fun i _ => M - (intOf i).toNat)
          case atStart => exact ⟨0, by omega, rfl, Below.refl _ _⟩
          case round =>
            obtain ⟨j, hj, rfl, HB⟩ := hrel
            by_cases hjm : j < M
            · obtain ⟨b2, o2, rfl, hb2, hc2⟩ := HG1.out.sure (by omega)
              obtain ⟨y, hy⟩ : ∃ y, (cutS l fr)[j]? = some y := ⟨_, List.getElem?_eq_getElem (by rw [HM2.out]; exact hjm)⟩
              have c0 := (HB.out.cell (p := ⟨b2, o2 + j, none⟩) hb2).trans (hc2 _ _ (ics_get hy))
              have hlow := cut_low hy
              have hd1 : decide (y < fr) = false := by simpa using hlow
              by_cases hj0 : j = 0
              · subst hj0
                have c00 : wr.cell? ⟨b2, o2, none⟩ = some (.int .i64 y) := c0
                clear hc2 hy c0
                go_upto_region 39 with fail
                go_quiet (fail)
                go_wp2_with fail
                exact ⟨⟨1, by omega, by go_num, below_drewN HB.out nq⟩, by simp [intOf]; omega⟩
              · obtain ⟨i, hi⟩ : ∃ i, j = i + 1 := ⟨j - 1, by omega⟩
                obtain ⟨z, hz⟩ : ∃ z, (cutS l fr)[i]? = some z := ⟨_, List.getElem?_eq_getElem (by rw [HM2.out]; omega)⟩
                have hyz : y < z := HO.out.cut fr hz (by rw [← hi]; exact hy)
                have c1' := (HB.out.cell (p := ⟨b2, o2 + i, none⟩) hb2).trans (hc2 _ _ (ics_get hz))
                have hji : (j : Int) - 1 = (i : Int) := by omega
                have hd2 : decide ((0 : Int) < (j : Int)) = true := by simp; omega
                have hd4 : decide (0 < j) = true := by simp; omega
                have hd3 : decide (z ≤ y) = false := by simpa using hyz
                have hiM : i < M := by omega
                clear hc2 hy hz hi
                go_upto_region 39 with fail
                go_quiet (fail)
                go_wp2_with fail
                exact ⟨⟨j + 1, by omega, by go_num, below_drewN HB.out nq⟩, by simp [intOf]; omega⟩
            · have : j = M := by omega
              subst this
              have HW2 : Hid (Wd w wr room (k + 1) (stayS l fr) seq last a1 c1) := ⟨by rw [HN2.out]; exact HL1.out.below (Nat.le_refl _) HB.out, HO.out.stay fr, by have := HCL.out; rw [HN2.out]; omega, by have := HCL.out; have := HR.out; rw [HN2.out]; omega, hs2, by omega, HBV.out.trans (HB.out.mono HBV.out.size)⟩
              go_wp2_with fail
              go_meet
              exact ⟨stayS l fr, seq, last, a1, c1, by rw [HN2.out], rfl, rfl, HW2⟩
      case rest =>
        clear HW hfew hs1 hs2 hs3 cb
        obtain ⟨l, seq, last, a, c, rfl, rfl, rfl, HW⟩ := hcut
        have hfew := HW.out.few
        have HO : Hid (Ord l seq last) := HW.out.ord
        obtain ⟨L, hLL⟩ : ∃ L, l.length = L := ⟨_, rfl⟩
        have HL2 : Hid (l.length = L) := hLL
        rw [hLL] at hfew ⊢
        clear hLL
        go_wp2_with fail
        go_loopw [21] (fun i wr2 => ∃ (j : Nat), j ≤ L ∧ i = .int .i64 j ∧ Hid (Below wc.heap.size wc wr2))
          (fun i _ => L - (intOf i).toNat)
        case atStart => exact ⟨0, by omega, rfl, Below.refl _ _⟩
        case round =>
          obtain ⟨j, hj, rfl, HB⟩ := hrel
          by_cases hjm : j < L
          · obtain ⟨s, d, hsd⟩ := at_ex (l := l) (k := j) (by rw [HL2.out]; exact hjm)
            obtain ⟨b2, o2, rfl, hb2, hc2⟩ := HW.out.lc.sure (by rw [HL2.out]; omega)
            have c0 := (HB.out.cell (p := ⟨b2, o2 + j * 2, none⟩) hb2).trans (hc2 _ _ (scs_seq _ _ _ hsd))
            have hlast : last < s := (HO.out.at' hsd).1
            have hd1 : decide (s ≤ last) = false := by simpa using hlast
            by_cases hj0 : j = 0
            · subst hj0
              have c00 : wr.cell? ⟨b2, o2, none⟩ = some (.int .i64 s) := by simpa using c0
              clear hc2 hsd c0
              go_upto_region 45 with fail
              go_quiet (fail)
              go_wp2_with fail
              exact ⟨⟨1, by omega, by go_num, below_drewN HB.out nq⟩, by simp [intOf]; omega⟩
            · obtain ⟨i, hi⟩ : ∃ i, j = i + 1 := ⟨j - 1, by omega⟩
              obtain ⟨t, f, htf⟩ := at_ex (l := l) (k := i) (by rw [HL2.out]; omega)
              have hts : t < s := HO.out.next htf (by rw [← hi]; exact hsd)
              have c1' := (HB.out.cell (p := ⟨b2, o2 + i * 2, none⟩) hb2).trans (hc2 _ _ (scs_seq _ _ _ htf))
              have hji : (j : Int) - 1 = (i : Int) := by omega
              have hd2 : decide ((0 : Int) < (j : Int)) = true := by simp; omega
              have hd4 : decide (0 < j) = true := by simp; omega
              have hd3 : decide (s ≤ t) = false := by simpa using hts
              have hiL : i < L := by omega
              clear hc2 hsd htf hi
              go_upto_region 45 with fail
              go_quiet (fail)
              go_wp2_with fail
              exact ⟨⟨j + 1, by omega, by go_num, below_drewN HB.out nq⟩, by simp [intOf]; omega⟩
          · have : j = L := by omega
            subst this
            have hroom : (j : Int) ≤ max room 0 := by have := HW.out.room; rw [HL2.out] at this; exact this
            have HW2 : Hid (Wd w wr room (k + 1) l seq last a c) := ⟨HW.out.lc.below (Nat.le_refl _) HB.out, HW.out.ord, HW.out.few, HW.out.room, HW.out.low, HW.out.high, HW.out.bel.trans (HB.out.mono HW.out.bel.size)⟩
            go_wp2_with fail
            exact ⟨⟨k + 1, l, seq, last, a, c, by omega, by omega, by go_num, by rw [HL2.out], rfl, rfl, HW2⟩, by simp [intOf]; omega⟩
    · have C := pPush_yes none 0 0 1 5 (by omega) [] (first_none (fun q hq => by cases hq)) (by omega)
      have HB : Hid (Below w.heap.size w wr) := HW.out.bel
      by_cases hk3 : k < ln
      · have hk4 : decide ((k : Int) < 200) = false := by simp; omega
        have hk5 : (k : Int) < ln := by omega
        go_wp2_with fail
        refine (C _ (lc_none _ _)).mono ?_
        rintro e V ⟨⟨a1, c1, rfl, hl, _⟩, hk⟩
        have HV : Hid (Below w.heap.size w V) := HB.out.trans (hk.mono HB.out.size)
        clear hl hk C
        go_wp2_with fail
        go_ret
        exact ⟨by simp, HV.out⟩
      · have hk5 : decide ((k : Int) < (ln : Int)) = false := by simp; omega
        go_wp2_with fail
        refine (C _ (lc_none _ _)).mono ?_
        rintro e V ⟨⟨a1, c1, rfl, hl, _⟩, hk⟩
        have HV : Hid (Below w.heap.size w V) := HB.out.trans (hk.mono HB.out.size)
        clear hl hk C
        go_wp2_with fail
        go_ret
        exact ⟨by simp, HV.out⟩
end Go.Proofs.Ytfhckpeenkaiiab
