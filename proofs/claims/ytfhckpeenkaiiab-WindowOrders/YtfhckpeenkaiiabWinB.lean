/- Slots that are asked for by a closure. -/
import Derived.Test.YtfhckpeenkaiiabChecked
import Derived.Test.YtfhckpeenkaiiabWinA
import Derived.ProofKit
import Derived.Below
import Derived.Deep.MidRow
import Derived.Deep.WholeRow
import Derived.Laws.Rows
import Derived.Laws.Tables
import Derived.Deep.QuietTactic
import Derived.BigQuiet
import Derived.Deep.Cut
import Derived.Deep.RegionWith
import Derived.Deep.RegionHeld
import Derived.Shelf.Abstract
import Derived.Lib.SliceRun
namespace Go.Proofs.Ytfhckpeenkaiiab
open Go.RowKit
set_option linter.unusedVariables false
theorem info3w : (Try.prog.info? 3).map (fun i => (i.zero, i.size, i.bytes)) = some (some (.int .i64 0), 1, 8) := by kernel_rfl
theorem infoSl : (Try.prog.info? 67).map (fun i => (i.zero, i.size, i.bytes)) = some (some (.agg #[.int .i64 0, .bool false]), 2, 16) := by kernel_rfl
/-- Whether a slot's number is seq or above it. -/
def above (seq : Int) (q : Sl) : Bool := decide (seq ≤ q.1)
/-- Whether a slot has that number, and isn't done. -/
def waits (seq : Int) (q : Sl) : Bool := decide (q.1 = seq) && !q.2
/-- A closure that asks a slot, while what lay in w lies there. -/
def Asks (g : Nat) (b : Nat) (p : Sl → Bool) (w : World) : Prop :=
  ∀ (W : World) (s : Int) (d : Bool), Below w.heap.size w W → Calls Try.prog g #[.agg #[.int .i64 s, .bool d], .pointer (some ⟨b, 0, none⟩)] W fun e w' => e = .returned (.bool (p (s, d))) ∧ Below W.heap.size W w'
theorem Asks.later {g b : Nat} {p : Sl → Bool} {w W : World} (h : Asks g b p w) (hb : Below w.heap.size w W) : Asks g b p W :=
  fun W' s d hb' => h W' s d (hb.trans (hb'.mono hb.size))
set_option maxRecDepth 20000 in
theorem asks_from (B : Nat) (seq : Int) (w : World) (hc : w.cell? ⟨B, 0, none⟩ = some (.int .i64 seq)) : Asks 68 B (above seq) w := by
  intro W s d hb
  have hB : B < w.heap.size := World.block_lt_of_cell? _ _ hc
  have hc1 : W.cell? ⟨B, 0, none⟩ = some (.int .i64 seq) := (hb.cell (p := ⟨B, 0, none⟩) hB).trans hc
  have hB1 : B < W.heap.size := Nat.lt_of_lt_of_le hB hb.size
  clear hb hc hB
  go_enter Try.func68, Try.ntmps68
  go_wp2
  go_ret
  exact ⟨rfl, (Below.refl _ _).alloc (Nat.le_refl _) _⟩
set_option maxRecDepth 20000 in
theorem asks_waits (B : Nat) (seq : Int) (w : World) (hc : w.cell? ⟨B, 0, none⟩ = some (.int .i64 seq)) : Asks 62 B (waits seq) w := by
  intro W s d hb
  have hB : B < w.heap.size := World.block_lt_of_cell? _ _ hc
  have hc1 : W.cell? ⟨B, 0, none⟩ = some (.int .i64 seq) := (hb.cell (p := ⟨B, 0, none⟩) hB).trans hc
  have hB1 : B < W.heap.size := Nat.lt_of_lt_of_le hB hb.size
  clear hb hc hB
  by_cases e : s = seq
  · subst e
    go_enter Try.func62, Try.ntmps62
    go_wp2
    go_ret
    exact ⟨by simp [waits], (Below.refl _ _).alloc (Nat.le_refl _) _⟩
  · have e2 : (s == seq) = false := by simpa using e
    go_enter Try.func62, Try.ntmps62
    go_wp2
    go_ret
    exact ⟨by simp [waits, e], (Below.refl _ _).alloc (Nat.le_refl _) _⟩
theorem eg_from : ∀ args w, (callFunc 68 args).run Try.prog w = .ok (.enter 68 args) w := enters_of Try.func68 (by kernel_rfl) rfl
theorem eg_waits : ∀ args w, (callFunc 62 args).run Try.prog w = .ok (.enter 62 args) w := enters_of Try.func62 (by kernel_rfl) rfl
set_option maxRecDepth 20000 in
set_option maxHeartbeats 1000000 in
theorem sIndexFunc_any (g b : Nat) (p : Sl → Bool) (eg : ∀ args w, (callFunc g args).run Try.prog w = .ok (.enter g args) w) (a : Option Addr) (n c : Nat) (hn : n ≤ 140737488355328) (l : List Sl) (m : Nat) (hm : Hid (First p l m)) (r : Int) (hr : Hid (r = if m < n then (m : Int) else -1)) (w : World) (hL : Hid (LC w a n c 2 (scs l))) (hA : Hid (Asks g b p w)) :
    Calls Try.prog 61 #[.slice a n c, .func (.func g) #[] #[.pointer (some ⟨b, 0, none⟩)]] w fun e w' => e = .returned (.int .i64 r) ∧ Below w.heap.size w w' := by
  have hlen : Hid (l.length = n) := by have := hL.out.len; rw [scs_len] at this; show _ = _; omega
  have hmn : m ≤ n := by have := hm.out.le; have := hlen.out; omega
  go_enter Try.func61, Try.ntmps61
  go_wp2_with fail
  go_loopw [8] (fun i wr => ∃ k : Nat, k ≤ m ∧ i = .int .i64 k ∧ Hid (Below w.heap.size w wr))
    (fun i _ => n - (intOf i).toNat)
  case atStart => exact ⟨0, by omega, rfl, Below.refl _ _⟩
  case round =>
    obtain ⟨k, hk, rfl, HB⟩ := hrel
    by_cases hlt : k < n
    · obtain ⟨s, d, hsd⟩ := at_ex (l := l) (k := k) (by rw [hlen.out]; exact hlt)
      obtain ⟨bb, o, rfl, hb, hc⟩ := hL.out.sure (by omega)
      have c0 : wr.cell? ⟨bb, o + k * 2, none⟩ = some (.int .i64 s) := (HB.out.cell (p := ⟨bb, o + k * 2, none⟩) hb).trans (hc _ _ (scs_seq _ _ _ hsd))
      have c1 : wr.cell? ⟨bb, o + k * 2 + 1, none⟩ = some (.bool d) := (HB.out.cell (p := ⟨bb, o + k * 2 + 1, none⟩) hb).trans (by rw [Nat.add_assoc]; exact hc _ _ (scs_done _ _ _ hsd))
      have hcall := hA.out wr s d HB.out
      by_cases hkm : k = m
      · subst hkm
        have hp : p (s, d) = true := hm.out.yes _ hsd
        rw [hp] at hcall
        have hrk : r = k := by rw [hr.out, if_pos hlt]
        subst hrk
        clear hc hsd hp
        go_wp2_with fail
        refine hcall.mono ?_
        rintro e w' ⟨rfl, hb'⟩
        have HB' : Hid (Below w.heap.size w w') := HB.out.trans (hb'.mono HB.out.size)
        clear hcall hb' c0 c1
        go_wp2_with fail
        go_ret
        exact ⟨rfl, HB'.out⟩
      · have hp : p (s, d) = false := hm.out.no k _ (by omega) hsd
        rw [hp] at hcall
        clear hc hsd hp
        go_wp2_with fail
        refine hcall.mono ?_
        rintro e w' ⟨rfl, hb'⟩
        have HB' : Hid (Below w.heap.size w w') := HB.out.trans (hb'.mono HB.out.size)
        clear hcall hb' c0 c1
        go_wp2_with fail
        exact ⟨⟨k + 1, by omega, by go_num, HB'⟩, by simp [intOf]; omega⟩
    · have : k = n := by omega
      subst this
      have hrk : r = -1 := by rw [hr.out, if_neg (by omega)]
      subst hrk
      go_wp2_with fail
      go_ret
      exact ⟨rfl, HB.out⟩
set_option maxRecDepth 20000 in
theorem sContainsFunc_any (g b : Nat) (p : Sl → Bool) (eg : ∀ args w, (callFunc g args).run Try.prog w = .ok (.enter g args) w) (a : Option Addr) (n c : Nat) (hn : n ≤ 140737488355328) (l : List Sl) (m : Nat) (hm : Hid (First p l m)) (r : Bool) (hr : Hid (r = decide (m < n))) (w : World) (hL : Hid (LC w a n c 2 (scs l))) (hA : Hid (Asks g b p w)) :
    Calls Try.prog 58 #[.slice a n c, .func (.func g) #[] #[.pointer (some ⟨b, 0, none⟩)]] w fun e w' => e = .returned (.bool r) ∧ Below w.heap.size w w' := by
  obtain ⟨x, hx⟩ : ∃ x, Hid (x = if m < n then (m : Int) else -1) := ⟨_, rfl⟩
  have C := fun w hL hA => sIndexFunc_any g b p eg a n c hn l m hm x hx w hL hA
  have hr2 : Hid (decide (0 ≤ x) = r) := by
    show _ = _
    rw [hr.out, hx.out]
    by_cases h : m < n
    · rw [if_pos h]; simp [h]
    · rw [if_neg h]; simp [h]
  go_enter Try.func58, Try.ntmps58
  go_wp2_with fail
  refine (C _ hL hA).mono ?_
  rintro e w' ⟨rfl, hb⟩
  have HB : Hid (Below w.heap.size w w') := hb
  clear hb C
  go_wp2_with fail
  go_ret
  exact ⟨by simp [hr2.out], HB.out⟩
theorem pfrom_any (seq : Int) (w : World) : Calls Try.prog 59 #[.int .i64 seq] w fun e w' => e = .returned (.func (.func 68) #[] #[.pointer (some ⟨w.heap.size, 0, none⟩)]) ∧ w'.cell? ⟨w.heap.size, 0, none⟩ = some (.int .i64 seq) ∧ Below w.heap.size w w' := by
  have hmf : ∀ (fn : Fn) (first cap : Array Value) (w : World), (Instr.makeFunc fn first cap).run Try.prog w = .ok (.func fn first cap) w := fun _ _ _ _ => rfl
  go_enter Try.func59, Try.ntmps59
  go_wp2
  go_ret
  exact ⟨rfl, by simp, (Below.refl _ _).alloc (Nat.le_refl _) _⟩
set_option maxHeartbeats 1000000 in
theorem sClone_some (b o n c : Nat) (hn : n * 16 ≤ 140737488355328) (cs : List Value) (w : World) (hL : Hid (LC w (some ⟨b, o, none⟩) n c 2 cs)) :
    Calls Try.prog 63 #[.slice (some ⟨b, o, none⟩) n c] w fun e w' => (∃ v', e = .returned v' ∧ w'.ownsRow w.heap.size 67 2 v' n cs) ∧ Below w.heap.size w w' := by
  obtain ⟨i0, hi, hz0, hz1, hz2⟩ := info_parts infoSl
  have q22 : ∀ (w : World) (a : Option Addr) (n c n' c' : Nat), (binOp .eql 57 (.slice a n c) (.slice none n' c')).run Try.prog w = .ok (.bool a.isNone) w := fun w a n c n' c' => Lib.run_eql_slice_nil w _ _ a n c n' c' Try.underlying57
  go_enter Try.func63, Try.ntmps63
  go_wp2_with (at_builtin; refine wpList_append_lc _ rfl _ _ 57 rfl w.heap.size 67 i0 _ 2 16 Try.underlying57 hi hz0 hz1 hz2 rfl (by decide) _ 0 [] rfl (World.ownsRow_made w #[] 0 (Nat.le_refl _) (Nat.zero_le _) rfl) _ n c cs rfl (hL.out.below (Nat.le_refl _) ((Below.refl _ _).alloc (Nat.le_refl _) _)) (by unfold maxLen; omega) (by omega) (by simp) ?_)
  intro v' w1 hown hgrow
  go_wp2
  go_ret
  exact ⟨⟨_, rfl, by simpa using hown⟩, ((Below.refl _ w).alloc (Nat.le_refl _) _).grown hgrow (by simp) (by intro k hk; simp [Value.ownBlock] at hk; omega)⟩
set_option maxRecDepth 20000 in
set_option maxHeartbeats 1000000 in
theorem sGrow_nil (N : Nat) (h0 : 0 < N) (hN : N * 16 ≤ 140737488355328) (w : World) :
    Calls Try.prog 69 #[.slice none 0 0, .int .i64 N] w fun e w' => (∃ v', e = .returned v' ∧ w'.ownsRow w.heap.size 67 2 v' 0 []) ∧ Below w.heap.size w w' := by
  obtain ⟨i0, hi, hz0, hz1, hz2⟩ := info_parts infoSl
  go_enter Try.func69, Try.ntmps69
  go_wp2
  all_goals have e8 : Try.t67.bytes = 16 := rfl
  all_goals have e9 : Builtin.nextslicecap N 0 * Try.t67.bytes ≤ 281474976710656 := growslice_fits h0 (by rw [e8]; omega)
  all_goals try (exfalso; first | omega | (simp only [e8] at *; omega))
  go_ret
  have hge := grownCap_ge w N 0 67
  have hle := grownCap_le_maxLen w N 0 67 (by unfold maxLen; omega)
  refine ⟨⟨_, rfl, World.ownsRow_made w _ _ (Nat.le_refl _) hle ?_⟩, (((Below.refl _ _).alloc (Nat.le_refl _) _).drew)⟩
  simp only [Array.size_append, size_zeroCells]
  show N * 2 + (grownCap w N 0 67 - N) * 2 = grownCap w N 0 67 * 2
  omega
theorem sGrow_zero (w : World) :
    Calls Try.prog 69 #[.slice none 0 0, .int .i64 0] w fun e w' => (∃ v', e = .returned v' ∧ w'.ownsRow w.heap.size 67 2 v' 0 []) ∧ Below w.heap.size w w' := by
  go_enter Try.func69, Try.ntmps69
  go_wp2
  go_ret
  exact ⟨⟨_, rfl, World.ownsRow_nil _ _ _ _⟩, Below.refl _ _⟩
end Go.Proofs.Ytfhckpeenkaiiab
