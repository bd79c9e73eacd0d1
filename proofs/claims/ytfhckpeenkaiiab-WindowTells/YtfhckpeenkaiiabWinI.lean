/- Slots are the same as themselves, and numbers. -/
import Derived.Test.YtfhckpeenkaiiabWinB
namespace Go.Proofs.Ytfhckpeenkaiiab
open Go.RowKit
set_option linter.unusedVariables false
set_option maxRecDepth 20000 in
set_option maxHeartbeats 1000000 in
theorem qInts_yes (a1 a2 : Option Addr) (n c1 c2 : Nat) (hn : n ≤ 140737488355328) (x : List Int) (w : World) (h1 : Hid (LC w a1 n c1 1 (ics x))) (h2 : Hid (LC w a2 n c2 1 (ics x))) :
    Calls Try.prog 39 #[.slice a1 n c1, .slice a2 n c2] w fun e w' => e = .returned (.bool true) ∧ Below w.heap.size w w' := by
  have hlen : Hid (x.length = n) := by have := h1.out.len; rw [ics_len] at this; show _ = _; omega
  go_enter Try.func39, Try.ntmps39
  go_wp2_with fail
  go_loopw [5] (fun i wr => ∃ k : Nat, k ≤ n ∧ i = .int .i64 k ∧ Hid (Below w.heap.size w wr))
    (fun i _ => n - (intOf i).toNat)
  case atStart => exact ⟨0, by omega, rfl, Below.refl _ _⟩
  case round =>
    obtain ⟨k, hk, rfl, HB⟩ := hrel
    by_cases hlt : k < n
    · obtain ⟨v, hv⟩ : ∃ v, x[k]? = some v := ⟨_, List.getElem?_eq_getElem (by rw [hlen.out]; exact hlt)⟩
      obtain ⟨b1, o1, rfl, hb1, hc1⟩ := h1.out.sure (by omega)
      obtain ⟨b2, o2, rfl, hb2, hc2⟩ := h2.out.sure (by omega)
      have g1 : wr.cell? ⟨b1, o1 + k, none⟩ = some (.int .i64 v) := (HB.out.cell (p := ⟨b1, o1 + k, none⟩) hb1).trans (hc1 _ _ (ics_get hv))
      have g2 : wr.cell? ⟨b2, o2 + k, none⟩ = some (.int .i64 v) := (HB.out.cell (p := ⟨b2, o2 + k, none⟩) hb2).trans (hc2 _ _ (ics_get hv))
      clear hc1 hc2 hv
      go_wp2_with fail
      go_region
      go_wp2_with fail
      exact ⟨⟨k + 1, by omega, by go_num, HB.out.drew⟩, by simp [intOf]; omega⟩
    · have : k = n := by omega
      subst this
      go_wp2_with fail
      go_ret
      exact ⟨rfl, HB.out⟩
set_option maxRecDepth 20000 in
set_option maxHeartbeats 1000000 in
theorem qSlots_yes (a1 a2 : Option Addr) (n c1 c2 : Nat) (hn : n ≤ 140737488355328) (l : List Sl) (w : World) (h1 : Hid (LC w a1 n c1 2 (scs l))) (h2 : Hid (LC w a2 n c2 2 (scs l))) :
    Calls Try.prog 34 #[.slice a1 n c1, .slice a2 n c2] w fun e w' => e = .returned (.bool true) ∧ Below w.heap.size w w' := by
  have hlen : Hid (l.length = n) := by have := h1.out.len; rw [scs_len] at this; show _ = _; omega
  go_enter Try.func34, Try.ntmps34
  go_wp2_with fail
  go_loopw [5] (fun i wr => ∃ k : Nat, k ≤ n ∧ i = .int .i64 k ∧ Hid (Below w.heap.size w wr))
    (fun i _ => n - (intOf i).toNat)
  case atStart => exact ⟨0, by omega, rfl, Below.refl _ _⟩
  case round =>
    obtain ⟨k, hk, rfl, HB⟩ := hrel
    by_cases hlt : k < n
    · obtain ⟨s, d, hsd⟩ := at_ex (l := l) (k := k) (by rw [hlen.out]; exact hlt)
      obtain ⟨b1, o1, rfl, hb1, hc1⟩ := h1.out.sure (by omega)
      obtain ⟨b2, o2, rfl, hb2, hc2⟩ := h2.out.sure (by omega)
      have g1 : wr.cell? ⟨b1, o1 + k * 2, none⟩ = some (.int .i64 s) := (HB.out.cell (p := ⟨b1, o1 + k * 2, none⟩) hb1).trans (hc1 _ _ (scs_seq _ _ _ hsd))
      have g2 : wr.cell? ⟨b2, o2 + k * 2, none⟩ = some (.int .i64 s) := (HB.out.cell (p := ⟨b2, o2 + k * 2, none⟩) hb2).trans (hc2 _ _ (scs_seq _ _ _ hsd))
      have f1 : wr.cell? ⟨b1, o1 + k * 2 + 1, none⟩ = some (.bool d) := (HB.out.cell (p := ⟨b1, o1 + k * 2 + 1, none⟩) hb1).trans (by rw [Nat.add_assoc]; exact hc1 _ _ (scs_done _ _ _ hsd))
      have f2 : wr.cell? ⟨b2, o2 + k * 2 + 1, none⟩ = some (.bool d) := (HB.out.cell (p := ⟨b2, o2 + k * 2 + 1, none⟩) hb2).trans (by rw [Nat.add_assoc]; exact hc2 _ _ (scs_done _ _ _ hsd))
      clear hc1 hc2 hsd
      go_wp2_with fail
      go_region
      go_wp2_with fail
      exact ⟨⟨k + 1, by omega, by go_num, HB.out.drew⟩, by simp [intOf]; omega⟩
    · have : k = n := by omega
      subst this
      go_wp2_with fail
      go_ret
      exact ⟨rfl, HB.out⟩
end Go.Proofs.Ytfhckpeenkaiiab
