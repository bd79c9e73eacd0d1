/- What copying bytes and laying a word into them comes to. -/
import Derived.Test.YtpiohehijkpghaaDoorMemA
import Derived.Lib.SliceRun
import Derived.Lib.OwnBridge
namespace Go.Proofs.YtpiohehijkpghaaDoor
open Go.RowKit
open Hy
set_option linter.unusedVariables false

/-- Bytes in a block of the call's own. -/
structure Fr (w : World) (B h n : Nat) (f : Nat → Int) : Prop where
  base : B ≤ h
  lt : h < w.heap.size
  cell : ∀ i, i < n → w.cell? ⟨h, i, none⟩ = some (.int .u8 (f i))
  free : ∀ i, i < n → w.frozen? ⟨h, i, none⟩ = false

theorem Fr.congr {w : World} {B h n : Nat} {f f' : Nat → Int} (H : Fr w B h n f) (e : ∀ i, i < n → f i = f' i) : Fr w B h n f' :=
  ⟨H.base, H.lt, fun i hi => by rw [← e i hi]; exact H.cell i hi, H.free⟩

theorem Fr.set {w : World} {B h n : Nat} {f : Nat → Int} (H : Fr w B h n f) (k : Nat) (hk : k < n) (v : Int) : Fr (w.setCell ⟨h, k, none⟩ (.int .u8 v)) B h n (fun i => if i = k then v else f i) := by
  refine ⟨H.base, by simpa using H.lt, fun i hi => ?_, fun i hi => by rw [World.frozen?_setCell]; exact H.free i hi⟩
  by_cases e : i = k
  · subst e
    rw [World.cell?_setCell_same _ _ _ (H.cell i hi), if_pos rfl]
  · rw [World.cell?_setCell_other _ _ _ _ (by intro h'; cases h'; omega), if_neg e]
    exact H.cell i hi

theorem Fr.below {w w' : World} {B h n : Nat} {f : Nat → Int} (H : Fr w B h n f) (hb : Below w.heap.size w w') : Fr w' B h n f :=
  ⟨H.base, Nat.lt_of_lt_of_le H.lt hb.size, fun i hi => (hb.cell (p := ⟨h, i, none⟩) H.lt).trans (H.cell i hi), fun i hi => (hb.frozen (p := ⟨h, i, none⟩) H.lt).trans (H.free i hi)⟩

theorem Fr.moved {w w' : World} {B B' h n : Nat} {f : Nat → Int} (H : Fr w B h n f) (hB : B' ≤ h) (hh : w'.heap[h]? = w.heap[h]?) (hs : w.heap.size ≤ w'.heap.size) : Fr w' B' h n f :=
  ⟨hB, Nat.lt_of_lt_of_le H.lt hs, fun i hi => (World.cell?_of_block (w := w) (a := ⟨h, i, none⟩) hh).trans (H.cell i hi), fun i hi => (World.frozen?_of_block (w := w) (a := ⟨h, i, none⟩) hh).trans (H.free i hi)⟩

theorem info5 : (Tryd.prog.info? 5).map (fun i => (i.zero, i.size, i.bytes)) = some (some (.int .u8 0), 1, 1) := by kernel_rfl

theorem fr_of_own {w : World} {B n : Nat} {v : Value} {f : Nat → Int} (hn : 0 < n) (hown : w.ownsRow B 5 1 v n ((List.range n).map fun i => Value.int .u8 (f i))) :
    ∃ h cap, v = .slice (some ⟨h, 0, none⟩) n cap ∧ n ≤ cap ∧ cap ≤ maxLen ∧ Fr w B h n f := by
  have hown0 := hown
  obtain ⟨_, hcase⟩ := hown
  rcases hcase with ⟨_, h0⟩ | ⟨g, cap', cur, rfl, hg, hh, hn', hcap, hsz, htake⟩
  · omega
  · refine ⟨g, cap', rfl, hn', hcap, hg, ?_, fun i hi => ?_, fun i hi => by simp [World.frozen?, hh]⟩
    · exact (Array.getElem?_eq_some_iff.1 hh).1
    · rw [hown0.cellAt i (by omega)]
      simp [hi]

set_option maxHeartbeats 1000000 in
theorem Clone_any (g o n c : Nat) (f : Nat → Int) (h0 : 0 < n) (hn : n ≤ 140737488355328) (w : World) (hc : Lies w g o n f) :
    Calls Tryd.prog 47 #[.slice (some ⟨g, o, none⟩) n c] w fun e w' => (∃ h cap, e = .returned (.slice (some ⟨h, 0, none⟩) n cap) ∧ n ≤ cap ∧ cap ≤ maxLen ∧ Fr w' w.heap.size h n f) ∧ Below w.heap.size w w' := by
  obtain ⟨i0, hi, hz0, hz1, hz2⟩ := info_parts info5
  have q22 : ∀ (w : World) (a : Option Addr) (n c n' c' : Nat), (binOp .eql 35 (.slice a n c) (.slice none n' c')).run Tryd.prog w = .ok (.bool a.isNone) w := fun w a n c n' c' => Lib.run_eql_slice_nil w _ _ a n c n' c' Tryd.underlying35
  have A : Hid (Lies w g o n f) := hc
  clear hc
  go_enter Tryd.func47, Tryd.ntmps47
  go_wp2_with (at_builtin; refine wpList_append_own _ rfl _ _ 35 rfl w.heap.size 5 i0 (.int .u8 0) 1 1 Tryd.underlying35 hi hz0 hz1 hz2 rfl (by decide) _ _ _ rfl (World.ownsRow_made w #[] 0 (Nat.le_refl _) (Nat.zero_le _) rfl) ⟨g, o, none⟩ n c ((List.range n).map fun i => Value.int .u8 (f i)) rfl ?qc1 ?qc2 ?qc3 ?qc4 ?qc5 ?qc6 ?_)
  case qc1 => simp
  case qc2 =>
    intro j u hj
    have hjn : j < n := by
      have := (List.getElem?_eq_some_iff.1 hj).1
      simpa using this
    have hb := World.block_lt_of_cell? _ _ (A.out j hjn)
    rw [((Below.refl w.heap.size w).alloc (Nat.le_refl _) _).cell (by rw [Go.WideShapes.add_plain]; exact hb)]
    simp [hjn] at hj
    rw [← hj, Go.WideShapes.add_plain]
    exact A.out j hjn
  case qc3 => intro u hu; obtain ⟨x, _, rfl⟩ := List.mem_map.1 hu; rfl
  case qc4 => unfold maxLen; omega
  case qc5 => omega
  case qc6 => simp
  intro v' w1 hown hgrow hnil
  go_wp2
  go_ret
  have hown' : w1.ownsRow w.heap.size 5 1 v' n ((List.range n).map fun i => Value.int .u8 (f i)) := by simpa using hown
  obtain ⟨h, cap, rfl, a1, a2, a3⟩ := fr_of_own h0 hown'
  exact ⟨⟨h, cap, rfl, a1, a2, a3⟩, ((Below.refl _ w).alloc (Nat.le_refl _) _).grown hgrow (by simp) (by intro k hk; simp [Value.ownBlock] at hk; omega)⟩

/-- Bytes with the first bytes of a word laid over them. -/
def sto (f : Nat → Int) (a : Nat) (W : Int) (j i : Nat) : Int := if a ≤ i ∧ i < a + j then W / p256 (i - a) % 256 else f i

theorem sto_succ (f : Nat → Int) (a : Nat) (W : Int) (j i : Nat) : (if i = a + j then W / p256 j % 256 else sto f a W j i) = sto f a W (j + 1) i := by
  unfold sto
  by_cases e : i = a + j
  · subst e
    rw [if_pos rfl, if_pos ⟨by omega, by omega⟩, show a + j - a = j by omega]
  · rw [if_neg e]
    by_cases h : a ≤ i ∧ i < a + j
    · rw [if_pos h, if_pos ⟨h.1, by omega⟩]
    · rw [if_neg h, if_neg (by omega)]

theorem Fr.step {w : World} {B h n : Nat} {f : Nat → Int} {a j : Nat} {W : Int} (H : Fr w B h n (sto f a W j)) (hk : a + j < n) (v : Int) (hv : v = W / p256 j % 256) : Fr (w.setCell ⟨h, a + j, none⟩ (.int .u8 v)) B h n (sto f a W (j + 1)) := by
  subst hv
  exact (H.set (a + j) hk _).congr fun i _ => sto_succ f a W j i

theorem Stores_no (p : Option Addr) (n c : Nat) (op a : Int) (hn : n ≤ 140737488355328) (a0 : 0 ≤ a) (a1 : a ≤ 4294967295) (h : ¬ (0 < stn op ∧ a % stn op = 0 ∧ a + stn op ≤ n)) (w : World) :
    Calls Tryd.prog 71 #[.slice p n c, .int .i64 op, .int .u32 a] w fun e w' => e = .returned (.int .u32 0) ∧ w' = w := by
  have hd : decide (0 < stn op ∧ a % stn op = 0 ∧ a + stn op ≤ n) = false := decide_eq_false h
  have hm := stn_cases op
  obtain ⟨m, hM⟩ : ∃ m, m = stn op := ⟨_, rfl⟩
  have C1 := stored_any op
  rw [← hM] at hd hm C1
  have C2 := fun w => stands_any p n c a m hn a0 a1 hm w
  rw [hd] at C2
  clear hM h hd hm
  go_enter Tryd.func71, Tryd.ntmps71
  go_wp2_with fail
  refine (C1 _).mono ?_
  rintro e w' ⟨rfl, rfl⟩
  go_wp2_with fail
  refine (C2 _).mono ?_
  rintro e w' ⟨rfl, rfl⟩
  go_wp2_with fail
  go_ret
  exact ⟨rfl, rfl⟩

theorem Stores_yes (p : Option Addr) (n c : Nat) (op a : Int) (hn : n ≤ 140737488355328) (a0 : 0 ≤ a) (a1 : a ≤ 4294967295) (h : 0 < stn op ∧ a % stn op = 0 ∧ a + stn op ≤ n) (w : World) :
    Calls Tryd.prog 71 #[.slice p n c, .int .i64 op, .int .u32 a] w fun e w' => e = .returned (.int .u32 (stn op)) ∧ w' = w := by
  have hd : decide (0 < stn op ∧ a % stn op = 0 ∧ a + stn op ≤ n) = true := decide_eq_true h
  have hm := stn_cases op
  obtain ⟨m, hM⟩ : ∃ m, m = stn op := ⟨_, rfl⟩
  have C1 := stored_any op
  rw [← hM] at hd hm C1 ⊢
  have C2 := fun w => stands_any p n c a m hn a0 a1 hm w
  rw [hd] at C2
  clear hM h hd hm
  go_enter Tryd.func71, Tryd.ntmps71
  go_wp2_with fail
  refine (C1 _).mono ?_
  rintro e w' ⟨rfl, rfl⟩
  go_wp2_with fail
  refine (C2 _).mono ?_
  rintro e w' ⟨rfl, rfl⟩
  go_wp2_with fail
  go_ret
  exact ⟨rfl, rfl⟩

theorem tStore_no (p : Option Addr) (n c : Nat) (op a W : Int) (hn : n ≤ 140737488355328) (a0 : 0 ≤ a) (a1 : a ≤ 4294967295) (h : ¬ (0 < stn op ∧ a % stn op = 0 ∧ a + stn op ≤ n)) (w : World) :
    Calls Tryd.prog 41 #[.slice p n c, .int .i64 op, .int .u32 a, .int .u32 W] w fun e w' => e = .returned (.tuple #[.slice none 0 0, .bool false]) ∧ w' = w := by
  have hd : decide (0 < stn op ∧ a % stn op = 0 ∧ a + stn op ≤ n) = false := decide_eq_false h
  have hm := stn_cases op
  obtain ⟨m, hM⟩ : ∃ m, m = stn op := ⟨_, rfl⟩
  have C1 := tSize_store op
  rw [← hM] at hd hm C1
  have C2 := fun w => there_any p n c a m hn a0 a1 hm w
  rw [hd] at C2
  clear hM h hd hm
  go_enter Tryd.func41, Tryd.ntmps41
  go_wp2_with fail
  refine (C1 _).mono ?_
  rintro e w' ⟨rfl, rfl⟩
  go_wp2_with fail
  refine (C2 _).mono ?_
  rintro e w' ⟨rfl, rfl⟩
  go_wp2_with fail
  go_ret2
  exact ⟨rfl, rfl⟩

set_option maxHeartbeats 1000000 in
theorem tStore_any (g o n c : Nat) (op : Int) (a m : Nat) (W : Int) (f : Nat → Int) (hM : stn op = (m : Int)) (hn : n ≤ 140737488355328) (a1 : a ≤ 4294967295) (h0 : 0 < m) (h1 : a % m = 0) (h2 : a + m ≤ n) (hnc : n ≤ c) (W0 : 0 ≤ W) (W1 : W ≤ 4294967295) (w : World)
    (hc : Lies w g o n f) :
    Calls Tryd.prog 41 #[.slice (some ⟨g, o, none⟩) n c, .int .i64 op, .int .u32 a, .int .u32 W] w fun e w' => (∃ h cap, e = .returned (.tuple #[.slice (some ⟨h, 0, none⟩) n cap, .bool true]) ∧ n ≤ cap ∧ Fr w' w.heap.size h n (sto f a W m)) ∧ Below w.heap.size w w' := by
  have hm' := stn_cases op
  have hm : m = 1 ∨ m = 2 ∨ m = 4 := by omega
  have C1 := tSize_store op
  rw [hM] at C1 hm'
  have C2 := fun w => there_any (some ⟨g, o, none⟩) n c a m hn (by omega) (by omega) hm' w
  have hd : decide (0 < (m : Int) ∧ (a : Int) % m = 0 ∧ (a : Int) + m ≤ n) = true := decide_eq_true ⟨by omega, by omega, by omega⟩
  rw [hd] at C2
  clear hd hm'
  obtain ⟨i0, hi, hz0, hz1, hz2⟩ := info_parts info5
  have A : Hid (Lies w g o n f) := hc
  clear hc
  go_enter Tryd.func41, Tryd.ntmps41
  go_wp2_with fail
  refine (C1 _).mono ?_
  rintro e w' ⟨rfl, rfl⟩
  go_wp2_with fail
  refine (C2 _).mono ?_
  rintro e w' ⟨rfl, rfl⟩
  clear C1 C2
  go_wp2_with (at_builtin; refine wpList_append_own _ rfl _ _ 35 rfl w'.heap.size 5 i0 (.int .u8 0) 1 1 Tryd.underlying35 hi hz0 hz1 hz2 rfl (by decide) _ _ _ rfl (World.ownsRow_made w' #[] 0 (Nat.le_refl _) (Nat.zero_le _) rfl) ⟨g, o, none⟩ n c ((List.range n).map fun i => Value.int .u8 (f i)) rfl ?qc1 ?qc2 ?qc3 ?qc4 ?qc5 ?qc6 ?_)
  case qc1 => simp
  case qc2 =>
    intro j u hj
    have hjn : j < n := by
      have := (List.getElem?_eq_some_iff.1 hj).1
      simpa using this
    have hb := World.block_lt_of_cell? _ _ (A.out j hjn)
    rw [((Below.refl w'.heap.size w').alloc (Nat.le_refl _) _).cell (by rw [Go.WideShapes.add_plain]; exact hb)]
    simp [hjn] at hj
    rw [← hj, Go.WideShapes.add_plain]
    exact A.out j hjn
  case qc3 => intro u hu; obtain ⟨x, _, rfl⟩ := List.mem_map.1 hu; rfl
  case qc4 => unfold maxLen; omega
  case qc5 => omega
  case qc6 => simp
  intro v' w1 hown hgrow hnil
  have hown' : w1.ownsRow w'.heap.size 5 1 v' n ((List.range n).map fun i => Value.int .u8 (f i)) := by simpa using hown
  obtain ⟨h, cap, rfl, hcap, hmax, hF⟩ := fr_of_own (by omega) hown'
  have hB : Below w'.heap.size w' w1 := ((Below.refl _ w').alloc (Nat.le_refl _) _).grown hgrow (by simp) (by intro k hk; simp [Value.ownBlock] at hk; omega)
  clear hown hgrow hnil hown' A hi hz0 hz1 hz2
  go_wp2_with fail
  go_loopw [12, 13] (fun t k wr => ∃ j : Nat, j ≤ m ∧ k = .int .i64 j ∧ t = .int .i64 (W / p256 j) ∧ Fr wr w'.heap.size h n (sto f a W j) ∧ Below w'.heap.size w' wr) (fun _ k _ => m - (intOf k).toNat)
  case atStart => exact ⟨0, by omega, rfl, int_eq (by rw [show p256 0 = 1 from rfl, Int.ediv_one]), hF.congr fun i _ => by unfold sto; rw [if_neg (by omega)], hB⟩
  case round =>
    obtain ⟨j, hj, rfl, rfl, hF, hB⟩ := hrel
    by_cases hlt : j < m
    · have c0 := hF.cell (a + j) (by omega)
      have z0 := hF.free (a + j) (by omega)
      rcases (by omega : j = 0 ∨ j = 1 ∨ j = 2 ∨ j = 3) with rfl | rfl | rfl | rfl
      · rw [Nat.add_zero] at c0 z0
        rw [show p256 0 = 1 from rfl, Int.ediv_one]
        go_wp2
        refine ⟨⟨1, by omega, rfl, rfl, hF.step (j := 0) (by omega) _ (by rw [show p256 0 = 1 from rfl, Int.ediv_one]), hB.setCell hF.base _⟩, by simp [intOf]; omega⟩
      · rw [show p256 1 = 256 from rfl]
        obtain ⟨T, hT⟩ : ∃ T, T = W / 256 := ⟨_, rfl⟩
        have tb : 0 ≤ T ∧ T ≤ 16777215 := by omega
        rw [← hT]
        have HT : Hid (T = W / 256) := hT
        clear hT
        go_wp2
        refine ⟨⟨2, by omega, rfl, int_eq (by have h' := HT.out; rw [show p256 2 = 65536 from rfl]; omega), hF.step (j := 1) (by omega) _ (by have h' := HT.out; rw [show p256 1 = 256 from rfl]; omega), hB.setCell hF.base _⟩, by simp [intOf]; omega⟩
      · rw [show p256 2 = 65536 from rfl]
        obtain ⟨T, hT⟩ : ∃ T, T = W / 65536 := ⟨_, rfl⟩
        have tb : 0 ≤ T ∧ T ≤ 65535 := by omega
        rw [← hT]
        have HT : Hid (T = W / 65536) := hT
        clear hT
        go_wp2
        refine ⟨⟨3, by omega, rfl, int_eq (by have h' := HT.out; rw [show p256 3 = 16777216 from rfl]; omega), hF.step (j := 2) (by omega) _ (by have h' := HT.out; rw [show p256 2 = 65536 from rfl]; omega), hB.setCell hF.base _⟩, by simp [intOf]; omega⟩
      · rw [show p256 3 = 16777216 from rfl]
        obtain ⟨T, hT⟩ : ∃ T, T = W / 16777216 := ⟨_, rfl⟩
        have tb : 0 ≤ T ∧ T ≤ 255 := by omega
        rw [← hT]
        have HT : Hid (T = W / 16777216) := hT
        clear hT
        go_wp2
        refine ⟨⟨4, by omega, rfl, int_eq (by have h' := HT.out; rw [show p256 4 = 4294967296 from rfl]; omega), hF.step (j := 3) (by omega) _ (by have h' := HT.out; rw [show p256 3 = 16777216 from rfl]; omega), hB.setCell hF.base _⟩, by simp [intOf]; omega⟩
    · obtain rfl : j = m := by omega
      obtain ⟨T, hT⟩ : ∃ T, T = W / p256 j := ⟨_, rfl⟩
      rw [← hT]
      clear hT
      go_wp2
      go_ret2
      exact ⟨⟨h, cap, rfl, hcap, hF⟩, hB⟩
end Go.Proofs.YtpiohehijkpghaaDoor
