/- Pop and Cut: the document. -/
import Derived.Test.YtfhckpeenkaiiabWinF
namespace Go.Proofs.Ytfhckpeenkaiiab
open Go.RowKit
set_option linter.unusedVariables false
theorem own_fresh {w : World} {B e n size : Nat} {v : Value} {xs : List Value} (h : w.ownsRow B e size v n xs) {p c : Nat} : v.ownBlock = none ∨ v.ownBlock ≠ (Value.slice (some ⟨w.heap.size, 0, none⟩) p c).ownBlock := by
  cases hv : v.ownBlock with
  | none => exact .inl rfl
  | some g =>
    refine .inr fun e0 => ?_
    have h1 := (h.lt g hv).2
    have : g = w.heap.size := by simpa [Value.ownBlock] using e0
    omega
set_option maxRecDepth 20000 in
set_option maxHeartbeats 1000000 in
theorem qPop_any (a : Option Addr) (n c : Nat) (most : Int) (l : List Sl) (m : Nat) (hm : Hid (Goes l most m)) (hn : n * 16 ≤ 140737488355328) (w : World) (hL : Hid (LC w a n c 2 (scs l))) :
    Calls Try.prog 36 #[.slice a n c, .int .i64 most] w fun e w' => Gives2 w (l.drop m) (headS l m) e w' := by
  obtain ⟨i3, hi3, hz0, hz1, hz2⟩ := info_parts info3w
  obtain ⟨iS, hiS, hs0, hs1, hs2⟩ := info_parts infoSl
  have hlen : Hid (l.length = n) := by have := hL.out.len; rw [scs_len] at this; show _ = _; omega
  have hmn : m ≤ n := by have := hm.out.le; have := hlen.out; omega
  go_enter Try.func36, Try.ntmps36
  go_wp2_with fail
  go_loopw [6, 7] (fun v i wr => ∃ k : Nat, k ≤ m ∧ i = .int .i64 k ∧ Hid (wr.ownsRow w.heap.size 3 1 v k (ics (headS l k))) ∧ Hid (Below w.heap.size w wr))
    (fun _ i _ => n - (intOf i).toNat)
  case atStart => exact ⟨0, by omega, rfl, World.ownsRow_nil _ _ _ _, Below.refl _ _⟩
  case round =>
    obtain ⟨k, hk, rfl, HO, HB⟩ := hrel
    obtain ⟨pk, ck, rfl⟩ := owns_slice' HO.out
    by_cases hlt : k < n
    · obtain ⟨s, d, hsd⟩ := at_ex (l := l) (k := k) (by rw [hlen.out]; exact hlt)
      obtain ⟨bb, o, rfl, hb, hc⟩ := hL.out.sure (by omega)
      have c0 : wr.cell? ⟨bb, o + k * 2, none⟩ = some (.int .i64 s) := (HB.out.cell (p := ⟨bb, o + k * 2, none⟩) hb).trans (hc _ _ (scs_seq _ _ _ hsd))
      have c1 : wr.cell? ⟨bb, o + k * 2 + 1, none⟩ = some (.bool d) := (HB.out.cell (p := ⟨bb, o + k * 2 + 1, none⟩) hb).trans (by rw [Nat.add_assoc]; exact hc _ _ (scs_done _ _ _ hsd))
      have hkc : k < c := by have := hL.out.le; omega
      have hlt2 : decide ((k : Int) < (n : Int)) = true := by simp; omega
      clear hc
      by_cases hkm : k = m
      · subst hkm
        have hst := hm.out.stop _ hsd
        by_cases hmo : (k : Int) < most
        · have hd : d = false := by
            cases d with
            | false => rfl
            | true => exact absurd ⟨hmo, rfl⟩ hst
          subst hd
          have hmo2 : decide ((k : Int) < most) = true := by simpa using hmo
          clear hst hsd
          go_wp2_with (at_builtin; refine wpList_append_lc _ rfl _ _ 57 rfl w.heap.size 67 iS _ 2 16 Try.underlying57 hiS hs0 hs1 hs2 rfl (by decide) _ 0 [] rfl (World.ownsRow_made wr #[] 0 HB.out.size (Nat.zero_le _) rfl) (some ⟨bb, o + k * 2, none⟩) (n - k) (c - k) (scs (l.drop k)) rfl (by rw [scs_drop]; exact LC.drop (hL.out.below (Nat.le_refl _) (HB.out.alloc HB.out.size _)) k (by omega) (fun _ => rfl) rfl) (by unfold maxLen; omega) (by omega) (by have := HB.out.size; simp; omega) ?_; intro v1 w1 hown1 hgrow1)
          have HO1 : Hid (w1.ownsRow w.heap.size 67 2 v1 ((n - k)) (scs (l.drop k))) := by show World.ownsRow _ _ _ _ _ _ _; simpa using hown1
          have HB1 : Hid (Below w.heap.size w w1) := (HB.out.alloc HB.out.size _).grown hgrow1 (by have := HB.out.size; simp; omega) (by intro j hj; have hj2 : some wr.heap.size = some j := hj; cases hj2; exact HB.out.size)
          have HO2 : Hid (w1.ownsRow w.heap.size 3 1 (.slice pk k ck) k (ics (headS l k))) := (HO.out.alloc _).kept hgrow1 (own_fresh HO.out)
          clear hown1 hgrow1
          go_wp2_with fail
          refine bodyPost_ret (v := .tuple #[v1, .slice pk k ck]) ?_ rfl (gives2_own (by rw [List.length_drop, hlen.out]; try omega) (headS_len hlen.out (by omega)) HO1.out HO2.out HB1.out)
          simp [results, Try.results36, asAddr]
        · have hmo2 : decide ((k : Int) < most) = false := by simpa using hmo
          clear hst hsd
          go_wp2_with (at_builtin; refine wpList_append_lc _ rfl _ _ 57 rfl w.heap.size 67 iS _ 2 16 Try.underlying57 hiS hs0 hs1 hs2 rfl (by decide) _ 0 [] rfl (World.ownsRow_made wr #[] 0 HB.out.size (Nat.zero_le _) rfl) (some ⟨bb, o + k * 2, none⟩) (n - k) (c - k) (scs (l.drop k)) rfl (by rw [scs_drop]; exact LC.drop (hL.out.below (Nat.le_refl _) (HB.out.alloc HB.out.size _)) k (by omega) (fun _ => rfl) rfl) (by unfold maxLen; omega) (by omega) (by have := HB.out.size; simp; omega) ?_; intro v1 w1 hown1 hgrow1)
          have HO1 : Hid (w1.ownsRow w.heap.size 67 2 v1 ((n - k)) (scs (l.drop k))) := by show World.ownsRow _ _ _ _ _ _ _; simpa using hown1
          have HB1 : Hid (Below w.heap.size w w1) := (HB.out.alloc HB.out.size _).grown hgrow1 (by have := HB.out.size; simp; omega) (by intro j hj; have hj2 : some wr.heap.size = some j := hj; cases hj2; exact HB.out.size)
          have HO2 : Hid (w1.ownsRow w.heap.size 3 1 (.slice pk k ck) k (ics (headS l k))) := (HO.out.alloc _).kept hgrow1 (own_fresh HO.out)
          clear hown1 hgrow1
          go_wp2_with fail
          refine bodyPost_ret (v := .tuple #[v1, .slice pk k ck]) ?_ rfl (gives2_own (by rw [List.length_drop, hlen.out]; try omega) (headS_len hlen.out (by omega)) HO1.out HO2.out HB1.out)
          simp [results, Try.results36, asAddr]
      · have hgo := hm.out.go k _ (by omega) hsd
        obtain ⟨hmo, hd⟩ := hgo
        have hd' : d = true := hd
        subst hd'
        have hmo2 : decide ((k : Int) < most) = true := by simpa using hmo
        have HN : Hid (headS l (k + 1) = headS l k ++ [s]) := headS_next hsd
        clear hsd hd
        go_wp2_with (at_builtin; refine wpList_append_lc _ rfl _ _ 40 rfl w.heap.size 3 i3 _ 1 8 Try.underlying40 hi3 hz0 hz1 hz2 rfl (by decide) _ k _ rfl (own_below HO.out (Nat.le_refl _) ((Below.refl _ _).alloc (Nat.le_refl _) _)) _ 1 1 (ics [s]) rfl (lc_box (heap_alloc_new _ _) (ics_one [s]) rfl) (by unfold maxLen; omega) (by omega) (by have := HB.out.size; simp; omega) ?_; intro v1 w1 hown1 hgrow1)
        have HO1 : Hid (w1.ownsRow w.heap.size 3 1 v1 (k + 1) (ics (headS l (k + 1)))) := by rw [HN.out, ics_app]; exact hown1
        have HB1 : Hid (Below w.heap.size w w1) := (HB.out.alloc HB.out.size _).grown hgrow1 (by have := HB.out.size; simp; omega) (fun j hj => (HO.out.lt j hj).1)
        clear hown1 hgrow1
        go_wp2_with fail
        exact ⟨⟨k + 1, by omega, by go_num, HO1, HB1⟩, by simp [intOf]; omega⟩
    · have : n = k := by omega
      subst this
      have hmk : m = n := by omega
      subst hmk
      have hlt2 : decide ((m : Int) < (m : Int)) = false := by simp
      by_cases hcm : m = c
      · subst hcm
        go_wp2_with (at_builtin; refine wpList_append_lc _ rfl _ _ 57 rfl w.heap.size 67 iS _ 2 16 Try.underlying57 hiS hs0 hs1 hs2 rfl (by decide) _ 0 [] rfl (World.ownsRow_made wr #[] 0 HB.out.size (Nat.zero_le _) rfl) a 0 0 (scs (l.drop m)) rfl (by rw [List.drop_of_length_le (by rw [hlen.out]; exact Nat.le_refl _)]; exact lc_empty _ _ _) (by unfold maxLen; omega) (by omega) (by have := HB.out.size; simp; omega) ?_; intro v1 w1 hown1 hgrow1)
        have HO1 : Hid (w1.ownsRow w.heap.size 67 2 v1 (0) (scs (l.drop m))) := by show World.ownsRow _ _ _ _ _ _ _; simpa using hown1
        have HB1 : Hid (Below w.heap.size w w1) := (HB.out.alloc HB.out.size _).grown hgrow1 (by have := HB.out.size; simp; omega) (by intro j hj; have hj2 : some wr.heap.size = some j := hj; cases hj2; exact HB.out.size)
        have HO2 : Hid (w1.ownsRow w.heap.size 3 1 (.slice pk m ck) m (ics (headS l m))) := (HO.out.alloc _).kept hgrow1 (own_fresh HO.out)
        clear hown1 hgrow1
        go_wp2_with fail
        refine bodyPost_ret (v := .tuple #[v1, .slice pk m ck]) ?_ rfl (gives2_own (by rw [List.length_drop, hlen.out]; try omega) (headS_len hlen.out (by omega)) HO1.out HO2.out HB1.out)
        simp [results, Try.results36, asAddr]
      · have hcm2 : ¬ c = m := fun e => hcm e.symm
        go_wp2_with (at_builtin; refine wpList_append_lc _ rfl _ _ 57 rfl w.heap.size 67 iS _ 2 16 Try.underlying57 hiS hs0 hs1 hs2 rfl (by decide) _ 0 [] rfl (World.ownsRow_made wr #[] 0 HB.out.size (Nat.zero_le _) rfl) (Option.map (fun x => x.add (m * 2)) a) 0 (c - m) (scs (l.drop m)) rfl (by rw [List.drop_of_length_le (by rw [hlen.out]; exact Nat.le_refl _)]; exact lc_end (hL.out.below (Nat.le_refl _) (HB.out.alloc HB.out.size _))) (by unfold maxLen; omega) (by omega) (by have := HB.out.size; simp; omega) ?_; intro v1 w1 hown1 hgrow1)
        have HO1 : Hid (w1.ownsRow w.heap.size 67 2 v1 (0) (scs (l.drop m))) := by show World.ownsRow _ _ _ _ _ _ _; simpa using hown1
        have HB1 : Hid (Below w.heap.size w w1) := (HB.out.alloc HB.out.size _).grown hgrow1 (by have := HB.out.size; simp; omega) (by intro j hj; have hj2 : some wr.heap.size = some j := hj; cases hj2; exact HB.out.size)
        have HO2 : Hid (w1.ownsRow w.heap.size 3 1 (.slice pk m ck) m (ics (headS l m))) := (HO.out.alloc _).kept hgrow1 (own_fresh HO.out)
        clear hown1 hgrow1
        go_wp2_with fail
        refine bodyPost_ret (v := .tuple #[v1, .slice pk m ck]) ?_ rfl (gives2_own (by rw [List.length_drop, hlen.out]; try omega) (headS_len hlen.out (by omega)) HO1.out HO2.out HB1.out)
        simp [results, Try.results36, asAddr]
/-- What goes of the last i, the last one first. -/
def gonR (l : List Sl) (seq : Int) (n i : Nat) : List Int := (((l.drop (n - i)).filter fun q => above seq q).map (·.1)).reverse
theorem gonR_zero {l : List Sl} {seq : Int} {n : Nat} (h : l.length = n) : gonR l seq n 0 = [] := by
  unfold gonR
  rw [List.drop_of_length_le (by omega)]
  rfl
theorem gonR_all (l : List Sl) (seq : Int) (n : Nat) : gonR l seq n n = cutS l seq := by
  unfold gonR cutS
  rw [Nat.sub_self]
  rfl
theorem gonR_le {l : List Sl} (seq : Int) {n : Nat} (i : Nat) (h : l.length = n) : (gonR l seq n i).length ≤ n := by
  unfold gonR
  rw [List.length_reverse, List.length_map]
  refine Nat.le_trans (List.length_filter_le _ _) ?_
  rw [List.length_drop]
  omega
theorem gonR_goes {l : List Sl} {seq : Int} {n i j : Nat} {p : Sl} (hj : j + 1 = n - i) (h : l[j]? = some p) (ha : above seq p = true) : gonR l seq n (i + 1) = gonR l seq n i ++ [p.1] := by
  unfold gonR
  rw [show n - (i + 1) = j by omega, drop_at h, ← hj, List.filter_cons, if_pos ha, List.map_cons, List.reverse_cons]
theorem gonR_stays {l : List Sl} {seq : Int} {n i j : Nat} {p : Sl} (hj : j + 1 = n - i) (h : l[j]? = some p) (ha : above seq p = false) : gonR l seq n (i + 1) = gonR l seq n i := by
  unfold gonR
  rw [show n - (i + 1) = j by omega, drop_at h, ← hj, List.filter_cons, if_neg (by simp [ha])]
set_option maxRecDepth 20000 in
set_option maxHeartbeats 1000000 in
theorem qCut_any (a : Option Addr) (n c : Nat) (seq : Int) (l : List Sl) (hn : n * 16 ≤ 140737488355328) (w : World) (hL : Hid (LC w a n c 2 (scs l))) :
    Calls Try.prog 38 #[.slice a n c, .int .i64 seq] w fun e w' => Gives2 w (stayS l seq) (cutS l seq) e w' := by
  obtain ⟨i3, hi3, hz0, hz1, hz2⟩ := info_parts info3w
  obtain ⟨iS, hiS, hs0, hs1, hs2⟩ := info_parts infoSl
  have hlen : Hid (l.length = n) := by have := hL.out.len; rw [scs_len] at this; show _ = _; omega
  go_enter Try.func38, Try.ntmps38
  go_wp2_with fail
  go_loopw [6, 7, 8] (fun v u i wr => ∃ k : Nat, k ≤ n ∧ i = .int .i64 k ∧ Hid (wr.ownsRow w.heap.size 67 2 v (styK l seq k).length (scs (styK l seq k))) ∧ Hid (wr.ownsRow w.heap.size 3 1 u (gonR l seq n k).length (ics (gonR l seq n k))) ∧ Hid (Below w.heap.size w wr))
    (fun _ _ i _ => n - (intOf i).toNat)
  case atStart => exact ⟨0, by omega, rfl, World.ownsRow_nil _ _ _ _, by rw [gonR_zero hlen.out]; exact World.ownsRow_nil _ _ _ _, Below.refl _ _⟩
  case round =>
    obtain ⟨k, hk, rfl, HV, HU, HB⟩ := hrel
    have hsl := sty_le l seq k
    have hgl := gonR_le seq k hlen.out
    by_cases hlt : k < n
    · obtain ⟨j, hj⟩ : ∃ j, j + 1 = n - k := ⟨n - 1 - k, by omega⟩
      have hjn : j < n := by omega
      have hjj : (n : Int) - 1 - (k : Int) = (j : Int) := by omega
      have Hj : Hid (j + 1 = n - k) := hj
      clear hj
      obtain ⟨s, d, hsd⟩ := at_ex (l := l) (k := k) (by rw [hlen.out]; exact hlt)
      obtain ⟨t, f, htf⟩ := at_ex (l := l) (k := j) (by rw [hlen.out]; exact hjn)
      obtain ⟨bb, o, rfl, hb, hc⟩ := hL.out.sure (by omega)
      have x0 : ∀ W, Below w.heap.size w W → W.cell? ⟨bb, o + k * 2, none⟩ = some (.int .i64 s) := fun W hW => (hW.cell (p := ⟨bb, o + k * 2, none⟩) hb).trans (hc _ _ (scs_seq _ _ _ hsd))
      have x1 : ∀ W, Below w.heap.size w W → W.cell? ⟨bb, o + k * 2 + 1, none⟩ = some (.bool d) := fun W hW => (hW.cell (p := ⟨bb, o + k * 2 + 1, none⟩) hb).trans (by rw [Nat.add_assoc]; exact hc _ _ (scs_done _ _ _ hsd))
      have x2 : ∀ W, Below w.heap.size w W → W.cell? ⟨bb, o + j * 2, none⟩ = some (.int .i64 t) := fun W hW => (hW.cell (p := ⟨bb, o + j * 2, none⟩) hb).trans (hc _ _ (scs_seq _ _ _ htf))
      have X0 : Hid _ := x0
      have X1 : Hid _ := x1
      have X2 : Hid _ := x2
      have c0 := X0.out wr HB.out
      clear hc x0 x1 x2
      by_cases ha : s < seq
      · obtain ⟨HN1, _⟩ := sty_stays (seq := seq) hsd (by simp [above]; omega)
        have HN : Hid (styK l seq (k + 1) = styK l seq k ++ [(s, d)]) := HN1
        have c1 := X1.out wr HB.out
        clear HN1
        go_upto_region 8 with (at_builtin; refine wpList_append_lc _ rfl _ _ 57 rfl w.heap.size 67 iS _ 2 16 Try.underlying57 hiS hs0 hs1 hs2 rfl (by decide) _ (styK l seq k).length _ rfl (own_below HV.out (Nat.le_refl _) ((Below.refl _ _).alloc (Nat.le_refl _) _)) _ 1 1 (scs [(s, d)]) rfl (lc_box (heap_alloc_new _ _) (scs_one [(s, d)]) rfl) (by unfold maxLen; omega) (by omega) (by have := HB.out.size; simp; omega) ?_; intro v1 w1 hown1 hgrow1)
        have HV1 : Hid (w1.ownsRow w.heap.size 67 2 v1 (styK l seq (k + 1)).length (scs (styK l seq (k + 1)))) := by rw [HN.out, scs_app, List.length_append]; exact hown1
        have HU1 : Hid (w1.ownsRow w.heap.size 3 1 u7 (gonR l seq n k).length (ics (gonR l seq n k))) := (HU.out.alloc _).kept hgrow1 (own_apart HU.out HV.out (by decide))
        have HB1 : Hid (Below w.heap.size w w1) := (HB.out.alloc HB.out.size _).grown hgrow1 (by have := HB.out.size; simp; omega) (fun j hj => (HV.out.lt j hj).1)
        clear hown1 hgrow1 HV HU HB c0 c1
        have c2 := X2.out w1 HB1.out
        by_cases hb2 : seq ≤ t
        · have HN2 : Hid (gonR l seq n (k + 1) = gonR l seq n k ++ [t]) := gonR_goes Hj.out htf (by simpa [above] using hb2)
          go_wp2_with (at_builtin; refine wpList_append_lc _ rfl _ _ 40 rfl w.heap.size 3 i3 _ 1 8 Try.underlying40 hi3 hz0 hz1 hz2 rfl (by decide) _ (gonR l seq n k).length _ rfl (own_below HU1.out (Nat.le_refl _) ((Below.refl _ _).alloc (Nat.le_refl _) _)) _ 1 1 (ics [t]) rfl (lc_box (heap_alloc_new _ _) (ics_one [t]) rfl) (by unfold maxLen; omega) (by omega) (by have := HB1.out.size; simp; omega) ?_; intro v2 w2 hown2 hgrow2)
          have HU2 : Hid (w2.ownsRow w.heap.size 3 1 v2 (gonR l seq n (k + 1)).length (ics (gonR l seq n (k + 1)))) := by rw [HN2.out, ics_app, List.length_append]; exact hown2
          have HV2 : Hid (w2.ownsRow w.heap.size 67 2 v1 (styK l seq (k + 1)).length (scs (styK l seq (k + 1)))) := (HV1.out.alloc _).kept hgrow2 (own_apart HV1.out HU1.out (by decide))
          have HB2 : Hid (Below w.heap.size w w2) := (HB1.out.alloc HB1.out.size _).grown hgrow2 (by have := HB1.out.size; simp; omega) (fun j hj => (HU1.out.lt j hj).1)
          clear hown2 hgrow2 HV1 HU1 HB1 c2
          go_wp2_with fail
          exact ⟨⟨k + 1, by omega, by go_num, HV2, HU2, HB2⟩, by simp [intOf]; omega⟩
        · have HU2 : Hid (w1.ownsRow w.heap.size 3 1 u7 (gonR l seq n (k + 1)).length (ics (gonR l seq n (k + 1)))) := by rw [gonR_stays Hj.out htf (by simpa [above] using hb2)]; exact HU1
          clear HU1
          go_wp2_with fail
          exact ⟨⟨k + 1, by omega, by go_num, HV1, HU2, HB1⟩, by simp [intOf]; omega⟩
      · obtain ⟨HN1, _⟩ := sty_goes (seq := seq) hsd (by simp [above]; omega)
        have HV1 : Hid (wr.ownsRow w.heap.size 67 2 u6 (styK l seq (k + 1)).length (scs (styK l seq (k + 1)))) := by rw [HN1]; exact HV
        have HU1 := HU
        have HB1 := HB
        clear HN1 HV HU HB
        go_upto_region 8 with fail
        clear c0
        have c2 := X2.out wr HB1.out
        by_cases hb2 : seq ≤ t
        · have HN2 : Hid (gonR l seq n (k + 1) = gonR l seq n k ++ [t]) := gonR_goes Hj.out htf (by simpa [above] using hb2)
          go_wp2_with (at_builtin; refine wpList_append_lc _ rfl _ _ 40 rfl w.heap.size 3 i3 _ 1 8 Try.underlying40 hi3 hz0 hz1 hz2 rfl (by decide) _ (gonR l seq n k).length _ rfl (own_below HU1.out (Nat.le_refl _) ((Below.refl _ _).alloc (Nat.le_refl _) _)) _ 1 1 (ics [t]) rfl (lc_box (heap_alloc_new _ _) (ics_one [t]) rfl) (by unfold maxLen; omega) (by omega) (by have := HB1.out.size; simp; omega) ?_; intro v2 w2 hown2 hgrow2)
          have HU2 : Hid (w2.ownsRow w.heap.size 3 1 v2 (gonR l seq n (k + 1)).length (ics (gonR l seq n (k + 1)))) := by rw [HN2.out, ics_app, List.length_append]; exact hown2
          have HV2 : Hid (w2.ownsRow w.heap.size 67 2 u6 (styK l seq (k + 1)).length (scs (styK l seq (k + 1)))) := (HV1.out.alloc _).kept hgrow2 (own_apart HV1.out HU1.out (by decide))
          have HB2 : Hid (Below w.heap.size w w2) := (HB1.out.alloc HB1.out.size _).grown hgrow2 (by have := HB1.out.size; simp; omega) (fun j hj => (HU1.out.lt j hj).1)
          clear hown2 hgrow2 HV1 HU1 HB1 c2
          go_wp2_with fail
          exact ⟨⟨k + 1, by omega, by go_num, HV2, HU2, HB2⟩, by simp [intOf]; omega⟩
        · have HU2 : Hid (wr.ownsRow w.heap.size 3 1 u7 (gonR l seq n (k + 1)).length (ics (gonR l seq n (k + 1)))) := by rw [gonR_stays Hj.out htf (by simpa [above] using hb2)]; exact HU1
          clear HU1
          go_wp2_with fail
          exact ⟨⟨k + 1, by omega, by go_num, HV1, HU2, HB1⟩, by simp [intOf]; omega⟩
    · have : k = n := by omega
      subst this
      rw [(sty_all (seq := seq) hlen.out).1] at HV
      rw [gonR_all] at HU
      go_wp2_with fail
      refine bodyPost_ret (v := .tuple #[u6, u7]) ?_ rfl (gives2_own rfl rfl HV.out HU.out HB.out)
      simp [results, Try.results38, asAddr]
end Go.Proofs.Ytfhckpeenkaiiab
