/- Push and Done: the document. -/
import Derived.Test.YtfhckpeenkaiiabWinE
namespace Go.Proofs.Ytfhckpeenkaiiab
open Go.RowKit
set_option linter.unusedVariables false
set_option maxRecDepth 20000 in
set_option maxHeartbeats 1000000 in
theorem qPush_there (a : Option Addr) (n c : Nat) (room seq : Int) (l : List Sl) (m : Nat) (hm : Hid (First (above seq) l m)) (hmn : m < n) (hn : n * 16 ≤ 140737488355328) (w : World) (hL : Hid (LC w a n c 2 (scs l))) :
    Calls Try.prog 31 #[.slice a n c, .int .i64 room, .int .i64 seq] w fun e w' => Gives w [] false e w' := by
  have hlen : Hid (l.length = n) := by have := hL.out.len; rw [scs_len] at this; show _ = _; omega
  go_enter Try.func31, Try.ntmps31
  go_wp2_with fail
  go_loopw [8] (fun i wr => ∃ k : Nat, k ≤ m ∧ i = .int .i64 k ∧ Hid (wr = w))
    (fun i _ => n - (intOf i).toNat)
  case atStart => exact ⟨0, by omega, rfl, rfl⟩
  case round =>
    obtain ⟨k, hk, rfl, HB⟩ := hrel
    obtain rfl := HB.out
    obtain ⟨s, d, hsd⟩ := at_ex (l := l) (k := k) (by rw [hlen.out]; omega)
    obtain ⟨bb, o, rfl, hb, hc⟩ := hL.out.sure (by omega)
    have c0 : wr.cell? ⟨bb, o + k * 2, none⟩ = some (.int .i64 s) := hc _ _ (scs_seq _ _ _ hsd)
    have hkn : k < n := by omega
    by_cases hkm : k = m
    · subst hkm
      have hp : seq ≤ s := by have := hm.out.yes _ hsd; simpa [above] using this
      clear hc hsd
      go_wp2_with fail
      refine bodyPost_ret (v := .tuple #[.slice none 0 0, .bool false]) ?_ rfl (gives_no rfl (Below.refl _ _))
      simp [results, Try.results31, asAddr]
    · have hp : ¬ seq ≤ s := by have := hm.out.no k _ (by omega) hsd; simpa [above] using this
      clear hc hsd
      go_wp2_with fail
      exact ⟨⟨k + 1, by omega, by go_num, trivial⟩, by simp [intOf]; omega⟩
set_option maxRecDepth 20000 in
set_option maxHeartbeats 1000000 in
theorem qPush_full (a : Option Addr) (n c : Nat) (room seq : Int) (h : room ≤ n) (l : List Sl) (hm : Hid (First (above seq) l n)) (hn : n * 16 ≤ 140737488355328) (w : World) (hL : Hid (LC w a n c 2 (scs l))) :
    Calls Try.prog 31 #[.slice a n c, .int .i64 room, .int .i64 seq] w fun e w' => Gives w [] false e w' := by
  have hlen : Hid (l.length = n) := by have := hL.out.len; rw [scs_len] at this; show _ = _; omega
  go_enter Try.func31, Try.ntmps31
  go_wp2_with fail
  go_loopw [8] (fun i wr => ∃ k : Nat, k ≤ n ∧ i = .int .i64 k ∧ Hid (wr = w))
    (fun i _ => n - (intOf i).toNat)
  case atStart => exact ⟨0, by omega, rfl, rfl⟩
  case round =>
    obtain ⟨k, hk, rfl, HB⟩ := hrel
    obtain rfl := HB.out
    by_cases hlt : k < n
    · obtain ⟨s, d, hsd⟩ := at_ex (l := l) (k := k) (by rw [hlen.out]; omega)
      obtain ⟨bb, o, rfl, hb, hc⟩ := hL.out.sure (by omega)
      have c0 : wr.cell? ⟨bb, o + k * 2, none⟩ = some (.int .i64 s) := hc _ _ (scs_seq _ _ _ hsd)
      have hp : ¬ seq ≤ s := by have := hm.out.no k _ (by omega) hsd; simpa [above] using this
      clear hc hsd
      go_wp2_with fail
      exact ⟨⟨k + 1, by omega, by go_num, trivial⟩, by simp [intOf]; omega⟩
    · have : k = n := by omega
      subst this
      go_wp2_with fail
      refine bodyPost_ret (v := .tuple #[.slice none 0 0, .bool false]) ?_ rfl (gives_no rfl (Below.refl _ _))
      simp [results, Try.results31, asAddr]
set_option maxRecDepth 20000 in
set_option maxHeartbeats 1000000 in
theorem qPush_yes (a : Option Addr) (n c : Nat) (room seq : Int) (h : n < room) (l : List Sl) (hm : Hid (First (above seq) l n)) (hn : n * 16 + 16 ≤ 140737488355328) (w : World) (hL : Hid (LC w a n c 2 (scs l))) :
    Calls Try.prog 31 #[.slice a n c, .int .i64 room, .int .i64 seq] w fun e w' => Gives w (l ++ [(seq, false)]) true e w' := by
  obtain ⟨iS, hiS, hs0, hs1, hs2⟩ := info_parts infoSl
  have hlen : Hid (l.length = n) := by have := hL.out.len; rw [scs_len] at this; show _ = _; omega
  go_enter Try.func31, Try.ntmps31
  go_wp2_with fail
  go_loopw [8] (fun i wr => ∃ k : Nat, k ≤ n ∧ i = .int .i64 k ∧ Hid (wr = w))
    (fun i _ => n - (intOf i).toNat)
  case atStart => exact ⟨0, by omega, rfl, rfl⟩
  case round =>
    obtain ⟨k, hk, rfl, HB⟩ := hrel
    obtain rfl := HB.out
    by_cases hlt : k < n
    · obtain ⟨s, d, hsd⟩ := at_ex (l := l) (k := k) (by rw [hlen.out]; omega)
      obtain ⟨bb, o, rfl, hb, hc⟩ := hL.out.sure (by omega)
      have c0 : wr.cell? ⟨bb, o + k * 2, none⟩ = some (.int .i64 s) := hc _ _ (scs_seq _ _ _ hsd)
      have hp : ¬ seq ≤ s := by have := hm.out.no k _ (by omega) hsd; simpa [above] using this
      clear hc hsd
      go_wp2_with fail
      exact ⟨⟨k + 1, by omega, by go_num, trivial⟩, by simp [intOf]; omega⟩
    · have : k = n := by omega
      subst this
      go_upto_region 9 with (at_builtin; refine wpList_append_lc _ rfl _ _ 57 rfl wr.heap.size 67 iS _ 2 16 Try.underlying57 hiS hs0 hs1 hs2 rfl (by decide) _ 0 [] rfl (World.ownsRow_made wr #[] 0 (Nat.le_refl _) (Nat.zero_le _) rfl) _ k c (scs l) rfl (hL.out.below (Nat.le_refl _) ((Below.refl _ _).alloc (Nat.le_refl _) _)) (by unfold maxLen; omega) (by omega) (by simp) ?_; intro v1 w1 hown1 hgrow1)
      have HO : Hid (w1.ownsRow wr.heap.size 67 2 v1 k (scs l)) := by show World.ownsRow _ _ _ _ _ _ _; simpa using hown1
      have HB1 : Hid (Below wr.heap.size wr w1) := ((Below.refl _ wr).alloc (Nat.le_refl _) _).grown hgrow1 (by simp) (by intro j hj; have hj2 : some wr.heap.size = some j := hj; cases hj2; exact Nat.le_refl _)
      clear hown1 hgrow1
      go_wp2_with (at_builtin; refine wpList_append_lc _ rfl _ _ 57 rfl wr.heap.size 67 iS _ 2 16 Try.underlying57 hiS hs0 hs1 hs2 rfl (by decide) _ k _ rfl (own_below HO.out (Nat.le_refl _) ((Below.refl _ _).alloc (Nat.le_refl _) _)) _ 1 1 (scs [(seq, false)]) rfl (lc_box (heap_alloc_new _ _) (scs_one [(seq, false)]) rfl) (by unfold maxLen; omega) (by omega) (by have := HB1.out.size; simp; omega) ?_; intro v2 w2 hown2 hgrow2)
      have HO2 : Hid (w2.ownsRow wr.heap.size 67 2 v2 (k + 1) (scs (l ++ [(seq, false)]))) := by rw [scs_app]; exact hown2
      have HB2 : Hid (Below wr.heap.size wr w2) := (HB1.out.alloc HB1.out.size _).grown hgrow2 (by have := HB1.out.size; simp; omega) (fun j hj => (HO.out.lt j hj).1)
      clear hown2 hgrow2 HO HB1
      go_wp2_with fail
      refine bodyPost_ret (v := .tuple #[v2, .bool true]) ?_ rfl (gives_own (by simp [hlen.out]) HO2.out HB2.out)
      simp [results, Try.results31, asAddr]
set_option maxRecDepth 20000 in
set_option maxHeartbeats 1000000 in
theorem qDone_no (a : Option Addr) (n c : Nat) (seq : Int) (l : List Sl) (hm : Hid (First (waits seq) l n)) (hn : n * 16 ≤ 140737488355328) (w : World) (hL : Hid (LC w a n c 2 (scs l))) :
    Calls Try.prog 33 #[.slice a n c, .int .i64 seq] w fun e w' => Gives w [] false e w' := by
  obtain ⟨iS, hiS, hs0, hs1, hs2⟩ := info_parts infoSl
  have hlen : Hid (l.length = n) := by have := hL.out.len; rw [scs_len] at this; show _ = _; omega
  go_enter Try.func33, Try.ntmps33
  go_upto_region 2 with (at_builtin; refine wpList_append_lc _ rfl _ _ 57 rfl w.heap.size 67 iS _ 2 16 Try.underlying57 hiS hs0 hs1 hs2 rfl (by decide) _ 0 [] rfl (World.ownsRow_made w #[] 0 (Nat.le_refl _) (Nat.zero_le _) rfl) _ n c (scs l) rfl (hL.out.below (Nat.le_refl _) ((Below.refl _ _).alloc (Nat.le_refl _) _)) (by unfold maxLen; omega) (by omega) (by simp) ?_; intro v1 w1 hown1 hgrow1)
  have HO : Hid (w1.ownsRow w.heap.size 67 2 v1 n (scs l)) := by show World.ownsRow _ _ _ _ _ _ _; simpa using hown1
  have HB1 : Hid (Below w.heap.size w w1) := ((Below.refl _ w).alloc (Nat.le_refl _) _).grown hgrow1 (by simp) (by intro j hj; have hj2 : some w.heap.size = some j := hj; cases hj2; exact Nat.le_refl _)
  clear hown1 hgrow1
  obtain ⟨p1, c1, rfl⟩ := owns_slice' HO.out
  go_wp2_with fail
  go_loopw [7] (fun i wr => ∃ k : Nat, k ≤ n ∧ i = .int .i64 k ∧ Hid (wr = w1))
    (fun i _ => n - (intOf i).toNat)
  case atStart => exact ⟨0, by omega, rfl, rfl⟩
  case round =>
    obtain ⟨k, hk, rfl, HB⟩ := hrel
    obtain rfl := HB.out
    by_cases hlt : k < n
    · obtain ⟨s, d, hsd⟩ := at_ex (l := l) (k := k) (by rw [hlen.out]; omega)
      obtain ⟨g, cap, e⟩ := own_some HO.out (by omega)
      cases e
      have e0 : wr.cell? ⟨g, k * 2, none⟩ = some (.int .i64 s) := (HO.out.cellAt _ (by omega)).trans (scs_seq _ _ _ hsd)
      have e1 : wr.cell? ⟨g, k * 2 + 1, none⟩ = some (.bool d) := (HO.out.cellAt _ (by omega)).trans (scs_done _ _ _ hsd)
      have hp := hm.out.no k _ (by omega) hsd
      clear hsd
      by_cases es : s = seq
      · subst es
        have hd : d = true := by simpa [waits] using hp
        subst hd
        go_wp2_with fail
        exact ⟨⟨k + 1, by omega, by go_num, trivial⟩, by simp [intOf]; omega⟩
      · have es2 : (s == seq) = false := by simpa using es
        go_wp2_with fail
        exact ⟨⟨k + 1, by omega, by go_num, trivial⟩, by simp [intOf]; omega⟩
    · have : k = n := by omega
      subst this
      go_wp2_with fail
      refine bodyPost_ret (v := .tuple #[.slice none 0 0, .bool false]) ?_ rfl (gives_no rfl HB1.out)
      simp [results, Try.results33, asAddr]
set_option maxRecDepth 20000 in
set_option maxHeartbeats 1000000 in
theorem qDone_yes (a : Option Addr) (n c : Nat) (seq : Int) (l : List Sl) (m : Nat) (hm : Hid (First (waits seq) l m)) (hmn : m < n) (hn : n * 16 ≤ 140737488355328) (w : World) (hL : Hid (LC w a n c 2 (scs l))) :
    Calls Try.prog 33 #[.slice a n c, .int .i64 seq] w fun e w' => Gives w (l.set m (seq, true)) true e w' := by
  obtain ⟨iS, hiS, hs0, hs1, hs2⟩ := info_parts infoSl
  have hlen : Hid (l.length = n) := by have := hL.out.len; rw [scs_len] at this; show _ = _; omega
  go_enter Try.func33, Try.ntmps33
  go_upto_region 2 with (at_builtin; refine wpList_append_lc _ rfl _ _ 57 rfl w.heap.size 67 iS _ 2 16 Try.underlying57 hiS hs0 hs1 hs2 rfl (by decide) _ 0 [] rfl (World.ownsRow_made w #[] 0 (Nat.le_refl _) (Nat.zero_le _) rfl) _ n c (scs l) rfl (hL.out.below (Nat.le_refl _) ((Below.refl _ _).alloc (Nat.le_refl _) _)) (by unfold maxLen; omega) (by omega) (by simp) ?_; intro v1 w1 hown1 hgrow1)
  have HO : Hid (w1.ownsRow w.heap.size 67 2 v1 n (scs l)) := by show World.ownsRow _ _ _ _ _ _ _; simpa using hown1
  have HB1 : Hid (Below w.heap.size w w1) := ((Below.refl _ w).alloc (Nat.le_refl _) _).grown hgrow1 (by simp) (by intro j hj; have hj2 : some w.heap.size = some j := hj; cases hj2; exact Nat.le_refl _)
  clear hown1 hgrow1
  obtain ⟨g, cap, rfl⟩ := own_some HO.out (by omega)
  go_wp2_with fail
  go_loopw [7] (fun i wr => ∃ k : Nat, k ≤ m ∧ i = .int .i64 k ∧ Hid (wr = w1))
    (fun i _ => n - (intOf i).toNat)
  case atStart => exact ⟨0, by omega, rfl, rfl⟩
  case round =>
    obtain ⟨k, hk, rfl, HB⟩ := hrel
    obtain rfl := HB.out
    obtain ⟨s, d, hsd⟩ := at_ex (l := l) (k := k) (by rw [hlen.out]; omega)
    have e0 : wr.cell? ⟨g, k * 2, none⟩ = some (.int .i64 s) := (HO.out.cellAt _ (by omega)).trans (scs_seq _ _ _ hsd)
    have e1 : wr.cell? ⟨g, k * 2 + 1, none⟩ = some (.bool d) := (HO.out.cellAt _ (by omega)).trans (scs_done _ _ _ hsd)
    have hkn : k < n := by omega
    by_cases hkm : k = m
    · subst hkm
      have hp := hm.out.yes _ hsd
      simp [waits] at hp
      obtain ⟨h1, h2⟩ := hp
      subst h1 h2
      have hfr : wr.frozen? ⟨g, k * 2 + 1, none⟩ = false := HO.out.frozenAt _
      have hg := (HO.out.lt g rfl).1
      have hst := HO.out.stored (k * 2 + 1) (.bool true)
      rw [scs_set _ _ s (by rw [hsd]; rfl)] at hst
      have HS : Hid _ := hst.1
      clear hst hsd
      go_wp2_with fail
      refine bodyPost_ret (v := .tuple #[.slice (some ⟨g, 0, none⟩) n cap, .bool true]) ?_ rfl (gives_own (by simp [hlen.out]) HS.out (HB1.out.setCell hg _))
      simp [results, Try.results33, asAddr]
    · have hp := hm.out.no k _ (by omega) hsd
      clear hsd
      by_cases es : s = seq
      · subst es
        have hd : d = true := by simpa [waits] using hp
        subst hd
        go_wp2_with fail
        exact ⟨⟨k + 1, by omega, by go_num, trivial⟩, by simp [intOf]; omega⟩
      · have es2 : (s == seq) = false := by simpa using es
        go_wp2_with fail
        exact ⟨⟨k + 1, by omega, by go_num, trivial⟩, by simp [intOf]; omega⟩
end Go.Proofs.Ytfhckpeenkaiiab
