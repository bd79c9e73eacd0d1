/- model.Run where something is wrong; both runs, of a state that may be; the law on both, walked. -/
import Derived.Test.YtpiohehijkpghaaDoorModA
import Derived.Test.YtpiohehijkpghaaDoorHartO
import Derived.Test.YtpiohehijkpghaaDoorHartR
import Derived.Test.YtpiohehijkpghaaDoorHartT
import Derived.Test.YtpiohehijkpghaaDoorModB
import Derived.Test.YtpiohehijkpghaaDoorModE
import Derived.Test.YtpiohehijkpghaaDoorMemL
namespace Go.Proofs.YtpiohehijkpghaaDoor
open Go.RowKit
open Hy
set_option linter.unusedVariables false

set_option maxRecDepth 20000 in
set_option maxHeartbeats 1000000 in
theorem owrong_form (H : Array Value) (p : Option Addr) (n c : Nat) (K : Int) (hI : Hid (H.size = 35)) 
    (CM : ∀ W, Calls Tryd.prog 15 #[.agg H] W fun e w' => e = .returned (.bool false) ∧ Below W.heap.size W w') (w : World) :
    Calls Tryd.prog 46 #[.agg H, .slice p n c, .int .i64 K] w fun e w' => e = .returned (.int .i64 2) ∧ Below w.heap.size w w' := by
  go_enter Tryd.func46, Tryd.ntmps46
  go_wp2_with (refine wpList_load_row rfl 34 _ rfl _ rfl 34 _ (0, 0) _ (heap_alloc_new _ _) Tryd.underlying34 rfl (info_hart hI.out) ?_)
  refine (CM _).mono ?_
  rintro e w2 ⟨rfl, hk⟩
  have hb2 : Below w.heap.size w w2 := ((Below.refl _ _).alloc (Nat.le_refl _) _).trans (hk.mono (by simp))
  clear hk CM
  go_wp2_with fail
  go_ret
  exact ⟨rfl, hb2⟩

set_option maxRecDepth 20000 in
set_option maxHeartbeats 1000000 in
theorem owrong_long (H : Array Value) (p : Option Addr) (n c : Nat) (K : Int) (hI : Hid (H.size = 35)) (hl : decide ((4096 : Int) < (n : Int)) = true)
    (CM : ∀ W, Calls Tryd.prog 15 #[.agg H] W fun e w' => e = .returned (.bool true) ∧ Below W.heap.size W w') (w : World) :
    Calls Tryd.prog 46 #[.agg H, .slice p n c, .int .i64 K] w fun e w' => e = .returned (.int .i64 2) ∧ Below w.heap.size w w' := by
  go_enter Tryd.func46, Tryd.ntmps46
  go_wp2_with (refine wpList_load_row rfl 34 _ rfl _ rfl 34 _ (0, 0) _ (heap_alloc_new _ _) Tryd.underlying34 rfl (info_hart hI.out) ?_)
  refine (CM _).mono ?_
  rintro e w2 ⟨rfl, hk⟩
  have hb2 : Below w.heap.size w w2 := ((Below.refl _ _).alloc (Nat.le_refl _) _).trans (hk.mono (by simp))
  clear hk CM
  go_wp2_with fail
  go_ret
  exact ⟨rfl, hb2⟩

set_option maxRecDepth 20000 in
set_option maxHeartbeats 1000000 in
theorem owrong_neg (H : Array Value) (p : Option Addr) (n c : Nat) (K : Int) (hI : Hid (H.size = 35)) (hl : decide ((4096 : Int) < (n : Int)) = false) (h0 : decide (K < 0) = true)
    (CM : ∀ W, Calls Tryd.prog 15 #[.agg H] W fun e w' => e = .returned (.bool true) ∧ Below W.heap.size W w') (w : World) :
    Calls Tryd.prog 46 #[.agg H, .slice p n c, .int .i64 K] w fun e w' => e = .returned (.int .i64 3) ∧ Below w.heap.size w w' := by
  go_enter Tryd.func46, Tryd.ntmps46
  go_wp2_with (refine wpList_load_row rfl 34 _ rfl _ rfl 34 _ (0, 0) _ (heap_alloc_new _ _) Tryd.underlying34 rfl (info_hart hI.out) ?_)
  refine (CM _).mono ?_
  rintro e w2 ⟨rfl, hk⟩
  have hb2 : Below w.heap.size w w2 := ((Below.refl _ _).alloc (Nat.le_refl _) _).trans (hk.mono (by simp))
  clear hk CM
  go_wp2_with fail
  go_ret
  exact ⟨rfl, hb2⟩

set_option maxRecDepth 20000 in
set_option maxHeartbeats 1000000 in
theorem owrong_much (H : Array Value) (p : Option Addr) (n c : Nat) (K : Int) (hI : Hid (H.size = 35)) (hl : decide ((4096 : Int) < (n : Int)) = false) (h0 : decide (K < 0) = false) (h1 : decide (2000 < K) = true)
    (CM : ∀ W, Calls Tryd.prog 15 #[.agg H] W fun e w' => e = .returned (.bool true) ∧ Below W.heap.size W w') (w : World) :
    Calls Tryd.prog 46 #[.agg H, .slice p n c, .int .i64 K] w fun e w' => e = .returned (.int .i64 3) ∧ Below w.heap.size w w' := by
  go_enter Tryd.func46, Tryd.ntmps46
  go_wp2_with (refine wpList_load_row rfl 34 _ rfl _ rfl 34 _ (0, 0) _ (heap_alloc_new _ _) Tryd.underlying34 rfl (info_hart hI.out) ?_)
  refine (CM _).mono ?_
  rintro e w2 ⟨rfl, hk⟩
  have hb2 : Below w.heap.size w w2 := ((Below.refl _ _).alloc (Nat.le_refl _) _).trans (hk.mono (by simp))
  clear hk CM
  go_wp2_with fail
  go_ret
  exact ⟨rfl, hb2⟩

set_option maxRecDepth 20000 in
set_option maxHeartbeats 1000000 in
theorem owrong_ok (H : Array Value) (p : Option Addr) (n c : Nat) (K : Int) (hI : Hid (H.size = 35)) (hl : decide ((4096 : Int) < (n : Int)) = false) (h0 : decide (K < 0) = false) (h1 : decide (2000 < K) = false)
    (CM : ∀ W, Calls Tryd.prog 15 #[.agg H] W fun e w' => e = .returned (.bool true) ∧ Below W.heap.size W w') (w : World) :
    Calls Tryd.prog 46 #[.agg H, .slice p n c, .int .i64 K] w fun e w' => e = .returned (.int .i64 0) ∧ Below w.heap.size w w' := by
  go_enter Tryd.func46, Tryd.ntmps46
  go_wp2_with (refine wpList_load_row rfl 34 _ rfl _ rfl 34 _ (0, 0) _ (heap_alloc_new _ _) Tryd.underlying34 rfl (info_hart hI.out) ?_)
  refine (CM _).mono ?_
  rintro e w2 ⟨rfl, hk⟩
  have hb2 : Below w.heap.size w w2 := ((Below.refl _ _).alloc (Nat.le_refl _) _).trans (hk.mono (by simp))
  clear hk CM
  go_wp2_with fail
  go_ret
  exact ⟨rfl, hb2⟩

set_option maxRecDepth 20000 in
set_option maxHeartbeats 1000000 in
theorem vWrong_form (H : Array Value) (p : Option Addr) (n c : Nat) (K : Int) (hI : Hid (H.size = 35)) 
    (CM : ∀ W, Calls Tryd.prog 16 #[.agg H] W fun e w' => e = .returned (.bool false) ∧ Below W.heap.size W w') (w : World) :
    Calls Tryd.prog 22 #[.agg H, .slice p n c, .int .i64 K] w fun e w' => e = .returned (.int .i64 2) ∧ Below w.heap.size w w' := by
  go_enter Tryd.func22, Tryd.ntmps22
  go_wp2_with (refine wpList_load_row rfl 34 _ rfl _ rfl 34 _ (0, 0) _ (heap_alloc_new _ _) Tryd.underlying34 rfl (info_hart hI.out) ?_)
  refine (CM _).mono ?_
  rintro e w2 ⟨rfl, hk⟩
  have hb2 : Below w.heap.size w w2 := ((Below.refl _ _).alloc (Nat.le_refl _) _).trans (hk.mono (by simp))
  clear hk CM
  go_wp2_with fail
  go_ret
  exact ⟨rfl, hb2⟩

set_option maxRecDepth 20000 in
set_option maxHeartbeats 1000000 in
theorem vWrong_long (H : Array Value) (p : Option Addr) (n c : Nat) (K : Int) (hI : Hid (H.size = 35)) (hl : decide ((4096 : Int) < (n : Int)) = true)
    (CM : ∀ W, Calls Tryd.prog 16 #[.agg H] W fun e w' => e = .returned (.bool true) ∧ Below W.heap.size W w') (w : World) :
    Calls Tryd.prog 22 #[.agg H, .slice p n c, .int .i64 K] w fun e w' => e = .returned (.int .i64 2) ∧ Below w.heap.size w w' := by
  go_enter Tryd.func22, Tryd.ntmps22
  go_wp2_with (refine wpList_load_row rfl 34 _ rfl _ rfl 34 _ (0, 0) _ (heap_alloc_new _ _) Tryd.underlying34 rfl (info_hart hI.out) ?_)
  refine (CM _).mono ?_
  rintro e w2 ⟨rfl, hk⟩
  have hb2 : Below w.heap.size w w2 := ((Below.refl _ _).alloc (Nat.le_refl _) _).trans (hk.mono (by simp))
  clear hk CM
  go_wp2_with fail
  go_ret
  exact ⟨rfl, hb2⟩

set_option maxRecDepth 20000 in
set_option maxHeartbeats 1000000 in
theorem vWrong_neg (H : Array Value) (p : Option Addr) (n c : Nat) (K : Int) (hI : Hid (H.size = 35)) (hl : decide ((4096 : Int) < (n : Int)) = false) (h0 : decide (K < 0) = true)
    (CM : ∀ W, Calls Tryd.prog 16 #[.agg H] W fun e w' => e = .returned (.bool true) ∧ Below W.heap.size W w') (w : World) :
    Calls Tryd.prog 22 #[.agg H, .slice p n c, .int .i64 K] w fun e w' => e = .returned (.int .i64 3) ∧ Below w.heap.size w w' := by
  go_enter Tryd.func22, Tryd.ntmps22
  go_wp2_with (refine wpList_load_row rfl 34 _ rfl _ rfl 34 _ (0, 0) _ (heap_alloc_new _ _) Tryd.underlying34 rfl (info_hart hI.out) ?_)
  refine (CM _).mono ?_
  rintro e w2 ⟨rfl, hk⟩
  have hb2 : Below w.heap.size w w2 := ((Below.refl _ _).alloc (Nat.le_refl _) _).trans (hk.mono (by simp))
  clear hk CM
  go_wp2_with fail
  go_ret
  exact ⟨rfl, hb2⟩

set_option maxRecDepth 20000 in
set_option maxHeartbeats 1000000 in
theorem vWrong_much (H : Array Value) (p : Option Addr) (n c : Nat) (K : Int) (hI : Hid (H.size = 35)) (hl : decide ((4096 : Int) < (n : Int)) = false) (h0 : decide (K < 0) = false) (h1 : decide (2000 < K) = true)
    (CM : ∀ W, Calls Tryd.prog 16 #[.agg H] W fun e w' => e = .returned (.bool true) ∧ Below W.heap.size W w') (w : World) :
    Calls Tryd.prog 22 #[.agg H, .slice p n c, .int .i64 K] w fun e w' => e = .returned (.int .i64 3) ∧ Below w.heap.size w w' := by
  go_enter Tryd.func22, Tryd.ntmps22
  go_wp2_with (refine wpList_load_row rfl 34 _ rfl _ rfl 34 _ (0, 0) _ (heap_alloc_new _ _) Tryd.underlying34 rfl (info_hart hI.out) ?_)
  refine (CM _).mono ?_
  rintro e w2 ⟨rfl, hk⟩
  have hb2 : Below w.heap.size w w2 := ((Below.refl _ _).alloc (Nat.le_refl _) _).trans (hk.mono (by simp))
  clear hk CM
  go_wp2_with fail
  go_ret
  exact ⟨rfl, hb2⟩

set_option maxRecDepth 20000 in
set_option maxHeartbeats 1000000 in
theorem vWrong_ok (H : Array Value) (p : Option Addr) (n c : Nat) (K : Int) (hI : Hid (H.size = 35)) (hl : decide ((4096 : Int) < (n : Int)) = false) (h0 : decide (K < 0) = false) (h1 : decide (2000 < K) = false)
    (CM : ∀ W, Calls Tryd.prog 16 #[.agg H] W fun e w' => e = .returned (.bool true) ∧ Below W.heap.size W w') (w : World) :
    Calls Tryd.prog 22 #[.agg H, .slice p n c, .int .i64 K] w fun e w' => e = .returned (.int .i64 0) ∧ Below w.heap.size w w' := by
  go_enter Tryd.func22, Tryd.ntmps22
  go_wp2_with (refine wpList_load_row rfl 34 _ rfl _ rfl 34 _ (0, 0) _ (heap_alloc_new _ _) Tryd.underlying34 rfl (info_hart hI.out) ?_)
  refine (CM _).mono ?_
  rintro e w2 ⟨rfl, hk⟩
  have hb2 : Below w.heap.size w w2 := ((Below.refl _ _).alloc (Nat.le_refl _) _).trans (hk.mono (by simp))
  clear hk CM
  go_wp2_with fail
  go_ret
  exact ⟨rfl, hb2⟩

end Go.Proofs.YtpiohehijkpghaaDoor
namespace Go.Proofs.YtpiohehijkpghaaDoor
open Go.RowKit
open Hy
set_option linter.unusedVariables false

/-- What an instruction does, in numbers. -/
structure Eff where
  next : Int
  st : Int
  ca : Int
  ri : Int
  rd : Nat
  v : Int
  ai : Int
  mi : Int
  a : Nat
  m : Nat
  data : Int
  out : Bool
  told : Int
/-- A hart and a memory. -/
structure St where
  R : Nat → Int
  pc : Int
  st : Int
  ca : Int
  f : Nat → Int

def nxt (s : St) (E : Eff) : St := ⟨upd s.R E.rd E.v, E.next, E.st, E.ca, sto s.f E.a E.data E.m⟩
def com (s : St) (E : Eff) : Array Value := ccs s.pc E.next E.st E.ca E.ri E.v E.ai E.mi E.data E.out E.told
def hrt (s : St) : Array Value := hcs s.R s.pc s.st s.ca
/-- One state behind the other. -/
def seq (G : St → Eff) (s : St) : Nat → St
  | 0 => s
  | i + 1 => nxt (seq G s i) (G (seq G s i))

theorem seq_add (G : St → Eff) (s : St) (a : Nat) : ∀ b, seq G (seq G s a) b = seq G s (a + b)
  | 0 => rfl
  | b + 1 => by
    show nxt (seq G (seq G s a) b) (G (seq G (seq G s a) b)) = nxt (seq G s (a + b)) (G (seq G s (a + b)))
    rw [seq_add G s a b]

/-- A state that may be. -/
def Fits (n : Nat) (s : St) : Prop := Rng s.R s.pc n s.f ∧ ((s.st = 0 ∧ s.ca = 0) ∨ (s.st = 1 ∧ s.ca = 0) ∨ (s.st = 2 ∧ 1 ≤ s.ca ∧ s.ca ≤ 6))

def Goes (n : Nat) (s : St) (E : Eff) : Prop :=
  Does n E.next E.st E.ca E.ri E.rd E.v E.ai E.mi E.a E.m E.data ∧ ∀ w p c, Ok w s.R s.pc p n c s.f →
    PStep w s.R s.pc p n c s.f E.next E.st E.ca E.ri E.rd E.v E.ai E.mi E.a E.m E.data E.out E.told ∧ QStepS w s.R s.pc p n c s.f E.next E.st E.ca E.ri E.rd E.v E.ai E.mi E.a E.m E.data E.out E.told

theorem goes (n : Nat) : ∃ G : St → Eff, ∀ s, Fits n s → s.st = 0 → Goes n s (G s) := by
  have h : ∀ s : St, ∃ E : Eff, Fits n s → s.st = 0 → Goes n s E := fun s => by
    by_cases hf : Fits n s
    · obtain ⟨next, st, ca, ri, rd, v, ai, mi, a, m, data, out, told, _, dd, h⟩ := all hf.1
      exact ⟨⟨next, st, ca, ri, rd, v, ai, mi, a, m, data, out, told⟩, fun _ _ => ⟨dd, h⟩⟩
    · exact ⟨⟨0, 0, 0, 0, 0, 0, 0, 0, 0, 0, 0, false, 0⟩, fun h => absurd h hf⟩
  exact Classical.axiomOfChoice h

theorem fits_nxt {n : Nat} {s : St} {E : Eff} (h : Fits n s) (d : Does n E.next E.st E.ca E.ri E.rd E.v E.ai E.mi E.a E.m E.data) : Fits n (nxt s E) := by
  obtain ⟨z, _⟩ := h
  refine ⟨⟨?_, fun i hi => ?_, d.n0, d.n1, z.hn, fun i hi => ?_⟩, d.hs⟩
  · show upd s.R E.rd E.v 0 = 0
    unfold upd
    split
    · exact z.r0
    · rw [if_neg (by omega)]; exact z.r0
  · show 0 ≤ upd s.R E.rd E.v i ∧ upd s.R E.rd E.v i ≤ 4294967295
    unfold upd
    split
    · exact z.hR i hi
    · split
      · exact ⟨d.v0, d.v1⟩
      · exact z.hR i hi
  · show 0 ≤ sto s.f E.a E.data E.m i ∧ sto s.f E.a E.data E.m i ≤ 255
    unfold sto
    split
    · have := d.d0
      omega
    · exact z.hf i hi

theorem fits_seq {n : Nat} {G : St → Eff} (hG : ∀ s, Fits n s → s.st = 0 → Goes n s (G s)) {s : St} (h : Fits n s) : ∀ i, (∀ j, j < i → (seq G s j).st = 0) → Fits n (seq G s i)
  | 0, _ => h
  | i + 1, hj => by
    have hi := fits_seq hG h i (fun j hl => hj j (by omega))
    exact fits_nxt hi (hG _ hi (hj i (by omega))).1

theorem hrt_size (s : St) : (hrt s).size = 35 := rfl
theorem hrt_ones (s : St) : Ones (hrt s) := hcs_ones _ _ _ _
theorem com_size (s : St) (E : Eff) : (com s E).size = 11 := rfl
theorem com_ones (s : St) (E : Eff) : Ones (com s E) := ones_ccs _ _ _ _ _ _ _ _ _ _ _

theorem hrt0 {n : Nat} {s : St} (h : Fits n s) (h0 : s.st = 0) : hrt s = hcs s.R s.pc 0 0 := by
  have hc : s.ca = 0 := by rcases h.2 with h | h | h <;> omega
  show hcs s.R s.pc s.st s.ca = _
  rw [h0, hc]

/-- The program's Step, of a state that runs. -/
theorem stepP_at {n : Nat} {s : St} {E : Eff} (h : Fits n s) (h0 : s.st = 0) (g : Goes n s E) (W : World) (p : Option Addr) (c : Nat) (hnc : n ≤ c) (hm : Mem W p n s.f) (hT : Tab W) (hT2 : Tab2 W) :
    Calls Tryd.prog 17 #[.agg (hrt s), .slice p n c] W fun e w' => (∃ p' cap, e = .returned (.tuple #[.agg (com s E), .agg (hrt (nxt s E)), .slice p' n cap, .bool true]) ∧ n ≤ cap ∧ Own w' W.heap.size p' n (nxt s E).f) ∧ Below W.heap.size W w' := by
  rw [hrt0 h h0]
  exact (g.2 W p c ⟨h.1.r0, h.1.hR, h.1.p0, h.1.p1, h.1.hn, hnc, hm, h.1.hf, hT, hT2⟩).1 W (Below.refl _ _)
/-- The document's Step, of a state that runs. -/
theorem stepQ_at {n : Nat} {s : St} {E : Eff} (h : Fits n s) (h0 : s.st = 0) (g : Goes n s E) (W : World) (p : Option Addr) (c : Nat) (hnc : n ≤ c) (hm : Mem W p n s.f) (hT : Tab W) (hT2 : Tab2 W) :
    Calls Tryd.prog 18 #[.agg (hrt s), .slice p n c] W fun e w' => (∃ D p' cap, e = .returned (.agg D) ∧ Did D (com s E) (hrt (nxt s E)) p' n cap ∧ n ≤ cap ∧ Mem w' p' n (nxt s E).f ∧ (p' = p ∨ ∃ h, p' = some ⟨h, 0, none⟩)) ∧ Below W.heap.size W w' := by
  rw [hrt0 h h0]
  exact (g.2 W p c ⟨h.1.r0, h.1.hR, h.1.p0, h.1.p1, h.1.hn, hnc, hm, h.1.hf, hT, hT2⟩).2 W (Below.refl _ _)
theorem may_fits {n : Nat} {s : St} (h : Fits n s) : (s.R 0 == 0 && (((s.st == 0 || s.st == 1) && s.ca == 0) || (s.st == 2 && decide (1 ≤ s.ca) && decide (s.ca ≤ 6)))) = true := by
  have r := h.1.r0
  rcases h.2 with ⟨a, b⟩ | ⟨a, b⟩ | ⟨a, b, c⟩
  · simp [r, a, b]
  · simp [r, a, b]
  · simp [r, a, b, c]
theorem hMay_fits {n : Nat} {s : St} (h : Fits n s) (W : World) : Calls Tryd.prog 15 #[.agg (hrt s)] W fun e w' => e = .returned (.bool true) ∧ Below W.heap.size W w' := by
  have c := hMay_any (hrt s) (s.R 0) s.st s.ca rfl rfl rfl W
  rw [may_fits h] at c
  exact c
theorem qMay_fits {n : Nat} {s : St} (h : Fits n s) (W : World) : Calls Tryd.prog 16 #[.agg (hrt s)] W fun e w' => e = .returned (.bool true) ∧ Below W.heap.size W w' := by
  have c := qMayH_any (hrt s) (s.R 0) s.st s.ca rfl rfl rfl W
  rw [may_fits h] at c
  exact c
/-- The program's Step, of a state that does not run. -/
theorem stepN_at {n : Nat} {s : St} (h : Fits n s) (h0 : s.st ≠ 0) (W : World) (p : Option Addr) (k c : Nat) :
    Calls Tryd.prog 17 #[.agg (hrt s), .slice p k c] W fun e w' => e = .returned (.tuple #[cv 0 0 0 0 0 0 0 0 0 false 0, hv (fun _ => 0) 0 0 0, .slice none 0 0, .bool false]) ∧ Below W.heap.size W w' :=
  hStep_runs (hrt s) s.st p k c W rfl rfl (by simpa using h0) (fun W => hMay_fits h W)
end Go.Proofs.YtpiohehijkpghaaDoor
namespace Go.Proofs.YtpiohehijkpghaaDoor
open Go.RowKit
open Hy
set_option linter.unusedVariables false
set_option linter.unusedSimpArgs false

theorem yieldsIf_load_midA {P : Program} {ops : Array Oper} {S : World → Prop} {op : Oper} {a : Act} (hw : Region.wanted op (yielded ops a.tmps) = true) (ty : TypeId) (x : Operand) (ho : op.op = .load ty x)
    (b o : Nat) (hx : a.eval x = .pointer (some ⟨b, o, none⟩)) (cs : Array Value) (d : TypeDesc) (hS : ∀ w, S w → w.rangeAt b o cs.toList)
    (hu : P.underlying ty = some d) (hd : d.isRow = true) (hi : (P.info? ty).map (·.size) = some cs.size) : YieldsIf P ops S op (.agg cs) a :=
  yieldsIf_load_mid hw ty x ho b o hx cs.toList d hS hu hd (by simpa using hi)

/-- A commit of a list lies in a row. -/
theorem owns_at {w : World} {base m : Nat} {e : TypeId} {g c : Nat} {C : Nat → Array Value} (h : w.ownsRow base e 11 (.slice (some ⟨g, 0, none⟩) m c) m (coms C m)) (hC : ∀ i, (C i).size = 11) : ∀ j, j < m → w.rangeAt g (j * 11) (C j).toList := by
  intro j hj i v hv
  have hi : i < 11 := by have := (List.getElem?_eq_some_iff.1 hv).1; have h2 := hC j; simp [h2] at this; exact this
  have a := h.cells (g := g) rfl (j * 11 + i) v (by rw [coms_get C hC m j i hj hi]; simpa using hv)
  have hadd : (⟨g, 0, none⟩ : Addr).add (j * 11 + i) = ⟨g, j * 11 + i, none⟩ := by unfold Addr.add; split <;> simp_all
  rw [hadd] at a
  exact a

set_option maxRecDepth 20000 in
set_option maxHeartbeats 2000000 in
theorem vSame_0 (p1 p2 : Option Addr) (c1 c2 : Nat) (w : World) : Calls Tryd.prog 24 #[.slice p1 0 c1, .slice p2 0 c2] w fun e w' => e = .returned (.bool true) ∧ Below w.heap.size w w' := by
  go_enter Tryd.func24, Tryd.ntmps24
  go_wp2
  go_loopw [5] (fun ct wr => ct = .int .i64 0 ∧ wr = w) (fun _ _ => 0)
  case atStart => exact ⟨rfl, rfl⟩
  case round =>
    obtain ⟨rfl, rfl⟩ := hrel
    go_wp2
    go_ret
    exact ⟨rfl, Below.refl _ _⟩

set_option maxRecDepth 20000 in
set_option maxHeartbeats 2000000 in
theorem vSame_m (C : Nat → Array Value) (g1 g2 m c1 c2 : Nat) (hm : m ≤ 4000) (hC : Hid (∀ i, (C i).size = 11)) (hq : ∀ j w, (binOp .neq 38 (.agg (C j)) (.agg (C j))).run Tryd.prog w = .ok (.bool false) w) (w : World) (r1 : Hid (∀ j, j < m → w.rangeAt g1 (j * 11) (C j).toList)) (r2 : Hid (∀ j, j < m → w.rangeAt g2 (j * 11) (C j).toList)) :
    Calls Tryd.prog 24 #[.slice (some ⟨g1, 0, none⟩) m c1, .slice (some ⟨g2, 0, none⟩) m c2] w fun e w' => e = .returned (.bool true) ∧ Below w.heap.size w w' := by
  go_enter Tryd.func24, Tryd.ntmps24
  go_wp2
  go_loopw [5] (fun ct wr => ∃ i : Nat, i ≤ m ∧ ct = .int .i64 i ∧ Hid (wr.heap = w.heap ∧ Below w.heap.size w wr)) (fun ct _ => m - (intOf ct).toNat)
  case atStart => exact ⟨0, by omega, rfl, rfl, Below.refl _ _⟩
  case round =>
    obtain ⟨i, him, rfl, hrel⟩ := hrel
    by_cases hlt : i < m
    · have hI : Hid ((Tryd.prog.info? 38).map (·.size) = some (C i).size) := size_commit.trans (congrArg some (hC.out i).symm)
      have hq := hq i
      go_upto_region 6 with fail
      refine wp_region_held_drew (S := fun w' => w'.heap = w.heap) (by kernel_rfl) hrel.out.1 (fun hH => ?_)
      refine wpAnyH_take (i := 0) (v := .slice (some ⟨g1, 0, none⟩) m c1) rfl (by kernel_rfl) (by kernel_rfl) (by kernel_rfl) (fun _ _ _ h => h) (Or.inl ⟨by rfl, by intro w hSw; go_simp⟩) hH ?_
      try simp only [Act.put, List.getElem_toArray, List.getElem_cons_succ, List.getElem_cons_zero, List.setIfInBounds_toArray, List.set_cons_zero, List.set_cons_succ]
      refine wpAnyH_take (i := 1) (v := .int .i64 i) rfl (by kernel_rfl) (by kernel_rfl) (by kernel_rfl) (fun _ _ _ h => h) (Or.inl ⟨by rfl, by intro w hSw; go_simp⟩) hH ?_
      try simp only [Act.put, List.getElem_toArray, List.getElem_cons_succ, List.getElem_cons_zero, List.setIfInBounds_toArray, List.set_cons_zero, List.set_cons_succ]
      refine wpAnyH_take (i := 2) (v := .pointer (some ⟨g1, i * 11, none⟩)) rfl (by kernel_rfl) (by kernel_rfl) (by kernel_rfl) (fun _ _ _ h => h) (Or.inl ⟨by rfl, by intro w hSw; go_simp⟩) hH ?_
      try simp only [Act.put, List.getElem_toArray, List.getElem_cons_succ, List.getElem_cons_zero, List.setIfInBounds_toArray, List.set_cons_zero, List.set_cons_succ]
      refine wpAnyH_take (i := 3) (v := .agg (C i)) rfl (by kernel_rfl) (by kernel_rfl) (by kernel_rfl) (fun _ _ _ h => h) (yieldsIf_load_midA (by rfl) 38 _ rfl g1 (i * 11) rfl (C i) _ (fun w' hSw j v hv => (World.cell?_of_block (w := w) (a := ⟨g1, i * 11 + j, none⟩) (by rw [hSw])).trans (r1.out i hlt j v hv)) Tryd.underlying38 rfl hI.out) hH ?_
      try simp only [Act.put, List.getElem_toArray, List.getElem_cons_succ, List.getElem_cons_zero, List.setIfInBounds_toArray, List.set_cons_zero, List.set_cons_succ]
      refine wpAnyH_take (i := 4) (v := .slice (some ⟨g2, 0, none⟩) m c2) rfl (by kernel_rfl) (by kernel_rfl) (by kernel_rfl) (fun _ _ _ h => h) (Or.inl ⟨by rfl, by intro w hSw; go_simp⟩) hH ?_
      try simp only [Act.put, List.getElem_toArray, List.getElem_cons_succ, List.getElem_cons_zero, List.setIfInBounds_toArray, List.set_cons_zero, List.set_cons_succ]
      refine wpAnyH_take (i := 5) (v := .int .i64 i) rfl (by kernel_rfl) (by kernel_rfl) (by kernel_rfl) (fun _ _ _ h => h) (Or.inl ⟨by rfl, by intro w hSw; go_simp⟩) hH ?_
      try simp only [Act.put, List.getElem_toArray, List.getElem_cons_succ, List.getElem_cons_zero, List.setIfInBounds_toArray, List.set_cons_zero, List.set_cons_succ]
      refine wpAnyH_take (i := 6) (v := .pointer (some ⟨g2, i * 11, none⟩)) rfl (by kernel_rfl) (by kernel_rfl) (by kernel_rfl) (fun _ _ _ h => h) (Or.inl ⟨by rfl, by intro w hSw; go_simp⟩) hH ?_
      try simp only [Act.put, List.getElem_toArray, List.getElem_cons_succ, List.getElem_cons_zero, List.setIfInBounds_toArray, List.set_cons_zero, List.set_cons_succ]
      refine wpAnyH_take (i := 7) (v := .agg (C i)) rfl (by kernel_rfl) (by kernel_rfl) (by kernel_rfl) (fun _ _ _ h => h) (yieldsIf_load_midA (by rfl) 38 _ rfl g2 (i * 11) rfl (C i) _ (fun w' hSw j v hv => (World.cell?_of_block (w := w) (a := ⟨g2, i * 11 + j, none⟩) (by rw [hSw])).trans (r2.out i hlt j v hv)) Tryd.underlying38 rfl hI.out) hH ?_
      try simp only [Act.put, List.getElem_toArray, List.getElem_cons_succ, List.getElem_cons_zero, List.setIfInBounds_toArray, List.set_cons_zero, List.set_cons_succ]
      refine wpAnyH_take (i := 8) (v := .bool false) rfl (by kernel_rfl) (by kernel_rfl) (by kernel_rfl) (fun _ _ _ h => h) (Or.inl ⟨by rfl, by intro w hSw; go_simp⟩) hH ?_
      try simp only [Act.put, List.getElem_toArray, List.getElem_cons_succ, List.getElem_cons_zero, List.setIfInBounds_toArray, List.set_cons_zero, List.set_cons_succ]
      refine wpAnyH_done (by kernel_rfl) ?_ _
      try simp only [Act.put, List.getElem_toArray, List.getElem_cons_succ, List.getElem_cons_zero, List.setIfInBounds_toArray, List.set_cons_zero, List.set_cons_succ]
      go_wp2_with fail
      go_roundw
      case rel => exact ⟨i + 1, by omega, by go_num, hrel.out.1, hrel.out.2.drew⟩
      case measure => simp [intOf]; omega
    · obtain rfl : i = m := by omega
      go_wp2_with fail
      go_ret
      exact ⟨rfl, hrel.out.2⟩
end Go.Proofs.YtpiohehijkpghaaDoor
namespace Go.Proofs.YtpiohehijkpghaaDoor.eq
open Go.RowKit
open Hy
set_option linter.unusedVariables false

/-- A hart's registers by value. -/
abbrev regs (R : Nat → Int) : Array Value := #[.int .u32 (R 0), .int .u32 (R 1), .int .u32 (R 2), .int .u32 (R 3), .int .u32 (R 4), .int .u32 (R 5), .int .u32 (R 6), .int .u32 (R 7), .int .u32 (R 8), .int .u32 (R 9), .int .u32 (R 10), .int .u32 (R 11), .int .u32 (R 12), .int .u32 (R 13), .int .u32 (R 14), .int .u32 (R 15), .int .u32 (R 16), .int .u32 (R 17), .int .u32 (R 18), .int .u32 (R 19), .int .u32 (R 20), .int .u32 (R 21), .int .u32 (R 22), .int .u32 (R 23), .int .u32 (R 24), .int .u32 (R 25), .int .u32 (R 26), .int .u32 (R 27), .int .u32 (R 28), .int .u32 (R 29), .int .u32 (R 30), .int .u32 (R 31)]
theorem part_reg (R : Nat → Int) (w : World) (i : Nat) (hi : i < 32) : (part 22 (regs R) (i * 1)).run Tryd.prog w = .ok (.int .u32 (R i)) w :=
  match i, hi with
  | 0, _ => by kernel_rfl
  | 1, _ => by kernel_rfl
  | 2, _ => by kernel_rfl
  | 3, _ => by kernel_rfl
  | 4, _ => by kernel_rfl
  | 5, _ => by kernel_rfl
  | 6, _ => by kernel_rfl
  | 7, _ => by kernel_rfl
  | 8, _ => by kernel_rfl
  | 9, _ => by kernel_rfl
  | 10, _ => by kernel_rfl
  | 11, _ => by kernel_rfl
  | 12, _ => by kernel_rfl
  | 13, _ => by kernel_rfl
  | 14, _ => by kernel_rfl
  | 15, _ => by kernel_rfl
  | 16, _ => by kernel_rfl
  | 17, _ => by kernel_rfl
  | 18, _ => by kernel_rfl
  | 19, _ => by kernel_rfl
  | 20, _ => by kernel_rfl
  | 21, _ => by kernel_rfl
  | 22, _ => by kernel_rfl
  | 23, _ => by kernel_rfl
  | 24, _ => by kernel_rfl
  | 25, _ => by kernel_rfl
  | 26, _ => by kernel_rfl
  | 27, _ => by kernel_rfl
  | 28, _ => by kernel_rfl
  | 29, _ => by kernel_rfl
  | 30, _ => by kernel_rfl
  | 31, _ => by kernel_rfl
  | n + 32, h => absurd h (by omega)
theorem items_reg (R : Nat → Int) (w : World) : ∀ is : List Nat, (∀ i ∈ is, i < 32) → (Op.eqItems 9998 22 1 (regs R) (regs R) is).run Tryd.prog w = .ok true w
  | [], _ => by simp [Op.eqItems]
  | i :: is, h => by
    have hp := part_reg R w i (h i (by simp))
    have ih := items_reg R w is (fun j hj => h j (by simp [hj]))
    have he : (Op.equalIn 9998 22 (.int .u32 (R i)) (.int .u32 (R i))).run Tryd.prog w = .ok true w := by
      rw [show (9998 : Nat) = 9997 + 1 from rfl, run_equalIn_int w 9997 22 .u32 .u32 (R i) (R i) Tryd.underlying22]
      simp
    simp only [Op.eqItems, Sem.run_bind, hp, he, Result.andThen_ok]
    simpa using ih
theorem eqlR (R : Nat → Int) : ∀ w, (Op.equalIn 9999 32 (.agg (regs R)) (.agg (regs R))).run Tryd.prog w = .ok true w := by
  intro w
  obtain ⟨i, hi⟩ : ∃ i, Tryd.prog.info? 22 = some i := Option.isSome_iff_exists.1 (by kernel_rfl)
  rw [show (9999 : Nat) = 9998 + 1 from rfl, run_equalIn_array w 9998 (regs R) (regs R) Tryd.underlying32 hi, k22]
  exact items_reg R w _ (fun i hi => by simpa using hi)
set_option maxRecDepth 20000 in
set_option maxHeartbeats 1000000 in
theorem eqlH (R : Nat → Int) (pc st ca : Int) : ∀ w, (binOp .eql 34 (hv R pc st ca) (hv R pc st ca)).run Tryd.prog w = .ok (.bool true) w := by
  intro w
  have h := eqlR R
  go_simp
end Go.Proofs.YtpiohehijkpghaaDoor.eq
namespace Go.Proofs.YtpiohehijkpghaaDoor
open Go.RowKit
open Hy
set_option linter.unusedVariables false
set_option linter.unusedSimpArgs false

theorem Stops.ex (st : Nat → Int) : ∀ k, ∃ m, Stops st k m
  | 0 => ⟨0, Nat.le_refl _, fun j h => absurd h (by omega), .inl rfl⟩
  | k + 1 => by
    obtain ⟨m, h⟩ := Stops.ex st k
    by_cases e : st m = 0
    · rcases h.end_ with d | d
      · subst d
        refine ⟨m + 1, Nat.le_refl _, fun j hj => ?_, .inl rfl⟩
        by_cases e2 : j = m
        · rw [e2]; exact e
        · exact h.runs j (by omega)
      · exact absurd e d
    · exact ⟨m, by have := h.le; omega, h.runs, .inr e⟩

set_option maxRecDepth 20000 in
set_option maxHeartbeats 2000000 in
theorem oRun_err (H : Array Value) (p : Option Addr) (n c : Nat) (K E : Int) (hI : Hid (H.size = 35)) (hE : (E != 0) = true) (w : World)
    (CW : ∀ W, Calls Tryd.prog 46 #[.agg H, .slice p n c, .int .i64 K] W fun e w' => e = .returned (.int .i64 E) ∧ Below W.heap.size W w') :
    Calls Tryd.prog 21 #[.agg H, .slice p n c, .int .i64 K] w fun e w' => e = .returned (.tuple #[.slice none 0 0, hv (fun _ => 0) 0 0 0, .slice none 0 0, .int .i64 E]) ∧ Below w.heap.size w w' := by
  go_enter Tryd.func21, Tryd.ntmps21
  go_wp2_with (refine wpList_load_row rfl 34 _ rfl _ rfl 34 _ (0, 0) _ (heap_alloc2_old _ _ _) Tryd.underlying34 rfl (info_hart hI.out) ?_)
  refine (CW _).mono ?_
  rintro e w2 ⟨rfl, hk2⟩
  have hs2 := hk2.size
  simp at hs2
  have RZ : Hid (w2.heap[w.heap.size + 1]? = some (.cells (hcs (fun _ => 0) 0 0 0) 34 (0, 0))) := (hk2.block _ (by simp)).trans (heap_alloc2_new _ _ _)
  have hb2 : Below w.heap.size w w2 := (((Below.refl _ _).alloc (Nat.le_refl _) _).alloc (by simp) _).trans (hk2.mono (by simp; omega))
  clear hk2 CW
  go_upto_region 3 with fail
  go_wp2_with (refine wpList_store_row rfl 34 _ _ rfl _ _ rfl rfl 34 (hcs (fun _ => 0) 0 0 0) RZ.out size_hart rfl ones_zero ?_)
  refine bodyPost_ret (v := .tuple #[.slice none 0 0, hv (fun _ => 0) 0 0 0, .slice none 0 0, .int .i64 E]) ?_ rfl ⟨rfl, below_row hb2 (by omega) _⟩
  have f2 := setRow_heap w2 (w.heap.size + 1) _ (hcs (fun _ => 0) 0 0 0) _ _ RZ.out
  have L2 := run_loadVar_row (P := Tryd.prog) _ _ 34 34 (hcs (fun _ => 0) 0 0 0) (0, 0) _ f2 Tryd.underlying34 rfl size_hart
  simp [results, Tryd.results21, asAddr, L2]

/-- The commits, the harts and the memories of a run, as cells. -/
theorem fam_seq (G : St → Eff) (s : St) : Fam (fun i => hrt (seq G s i)) (fun i => com (seq G s i) (G (seq G s i))) (fun i => (seq G s i).st) :=
  ⟨fun i => ⟨hrt_size _, hrt_ones _⟩, fun i => ⟨com_size _ _, com_ones _ _⟩, fun i => rfl⟩

def comsOf (G : St → Eff) (s : St) (m : Nat) : List Value := coms (fun i => com (seq G s i) (G (seq G s i))) m

/-- The program's run. -/
theorem runP {n : Nat} {G : St → Eff} (hG : ∀ s, Fits n s → s.st = 0 → Goes n s (G s)) {s : St} (h : Fits n s) {k m : Nat} (hk : k ≤ 2000) (hm : Stops (fun i => (seq G s i).st) k m) (W : World) (p : Option Addr) (c : Nat) (hM : Mem W p n s.f) (hT : Tab W) (hT2 : Tab2 W) :
    Calls Tryd.prog 21 #[.agg (hrt s), .slice p n c, .int .i64 k] W fun e w' => (∃ lp lc p' cap, e = .returned (.tuple #[.slice lp m lc, .agg (hrt (seq G s m)), .slice p' n cap, .int .i64 0]) ∧ w'.ownsRow W.heap.size 38 11 (.slice lp m lc) m (comsOf G s m) ∧ n ≤ cap ∧ Own w' W.heap.size p' n (seq G s m).f) ∧ Below W.heap.size W w' := by
  have hn := h.1.hn
  refine (oRun_yes (fun i => hrt (seq G s i)) (fun i => com (seq G s i) (G (seq G s i))) (fun i => (seq G s i).f) (fun i => (seq G s i).st) (fam_seq G s) k n c p hk W ?_ ?_ ?_ ?_).mono ?_
  · exact fun W' => owrong_ok (hrt s) p n c k rfl (decide_eq_false (by omega)) (decide_eq_false (by omega)) (decide_eq_false (by omega)) (fun W => hMay_fits h W) W'
  · exact fun W' hW' => CloneM p n c s.f hn W' (hM.below hW')
  · intro i W' q c' hr h0 hb hnc hm'
    have hf := fits_seq hG h i hr
    exact stepP_at hf h0 (hG _ hf h0) W' q c' hnc hm' (hT.below hb hT.size) (hT2.below hb hT2.size)
  · intro i W' q c' hr h0
    exact stepN_at (fits_seq hG h i hr) h0 W' q n c'
  · rintro e w' ⟨⟨m', lp, lc, p', cap, he, hs, ho, hcap, hO⟩, hb⟩
    obtain rfl := hm.one hs
    exact ⟨⟨lp, lc, p', cap, he, ho, hcap, hO⟩, hb⟩

/-- The document's run. -/
theorem playQ {n : Nat} {G : St → Eff} (hG : ∀ s, Fits n s → s.st = 0 → Goes n s (G s)) {s : St} (h : Fits n s) {k m : Nat} (hk : k ≤ 2000) (hm : Stops (fun i => (seq G s i).st) k m) (W : World) (p : Option Addr) (c : Nat) (hnc : n ≤ c) (hM : Mem W p n s.f) (hT : Tab W) (hT2 : Tab2 W) :
    Calls Tryd.prog 23 #[.agg (hrt s), .slice p n c, .int .i64 k] W fun e w' => (∃ lp lc p' cap, e = .returned (.tuple #[.slice lp m lc, .agg (hrt (seq G s m)), .slice p' n cap]) ∧ w'.ownsRow W.heap.size 38 11 (.slice lp m lc) m (comsOf G s m) ∧ n ≤ cap ∧ Mem w' p' n (seq G s m).f) ∧ Below W.heap.size W w' := by
  refine (vPlay_yes (fun i => hrt (seq G s i)) (fun i => com (seq G s i) (G (seq G s i))) (fun i => (seq G s i).f) (fun i => (seq G s i).st) (fam_seq G s) (fun i => ⟨_, rfl⟩) ⟨fun i => com_size _ _, _, rfl⟩ k n c p hk hnc W hM ?_).mono ?_
  · intro i W' q c' hr h0 hb hnc hm'
    have hf := fits_seq hG h i hr
    exact stepQ_at hf h0 (hG _ hf h0) W' q c' hnc hm' (hT.below hb hT.size) (hT2.below hb hT2.size)
  · rintro e w' ⟨⟨m', lp, lc, p', cap, he, hs, ho, hcap, hO⟩, hb⟩
    obtain rfl := hm.one hs
    exact ⟨⟨lp, lc, p', cap, he, ho, hcap, hO⟩, hb⟩

theorem eqlC (pc next st ca rd val at_ many data : Int) (out : Bool) (told : Int) : ∀ w, (binOp .neq 38 (cv pc next st ca rd val at_ many data out told) (cv pc next st ca rd val at_ many data out told)).run Tryd.prog w = .ok (.bool false) w := by
  intro w
  go_simp

/-- Two lists of the same commits are the same. -/
theorem sameQ (G : St → Eff) (s : St) {m : Nat} (hm : m ≤ 4000) (W : World) {b1 b2 : Nat} {p1 p2 : Option Addr} {c1 c2 : Nat} (h1 : W.ownsRow b1 38 11 (.slice p1 m c1) m (comsOf G s m)) (h2 : W.ownsRow b2 38 11 (.slice p2 m c2) m (comsOf G s m)) :
    Calls Tryd.prog 24 #[.slice p1 m c1, .slice p2 m c2] W fun e w' => e = .returned (.bool true) ∧ Below W.heap.size W w' := by
  have k1 := h1
  have k2 := h2
  rcases h1.2 with ⟨_, rfl⟩ | ⟨g1, cap1, cur1, e1, _⟩
  · exact vSame_0 p1 p2 c1 c2 W
  · rcases h2.2 with ⟨_, rfl⟩ | ⟨g2, cap2, cur2, e2, _⟩
    · exact vSame_0 p1 p2 c1 c2 W
    · simp at e1 e2
      obtain ⟨rfl, rfl⟩ := e1
      obtain ⟨rfl, rfl⟩ := e2
      exact vSame_m _ g1 g2 m c1 c2 hm (fun i => com_size _ _) (fun j w => eqlC _ _ _ _ _ _ _ _ _ _ _ w) W (owns_at k1 (fun i => com_size _ _)) (owns_at k2 (fun i => com_size _ _))
end Go.Proofs.YtpiohehijkpghaaDoor
