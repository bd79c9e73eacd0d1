/- OrderSees and OrderPlain walked. -/
import Derived.Test.YtpiohehijkpghabOrdJ
namespace Go.Proofs.Ytpiohehijkpghab
open Go.RowKit
open Hy
set_option linter.unusedVariables false
set_option linter.unusedSimpArgs false
/-- Bytes as memory holds them. -/
structure MemAt (w : World) (p : Option Addr) (ml mc : Nat) (f : Nat → Int) : Prop where
  top : ml ≤ 140737488355328
  cap : ml ≤ mc
  rng : ∀ i, i < ml → 0 ≤ f i ∧ f i ≤ 255
  ad : 0 < ml → ∃ g o, p = some ⟨g, o, none⟩ ∧ g < w.heap.size ∧ Lies w g o ml f
theorem MemAt.below {w w' : World} {p : Option Addr} {ml mc : Nat} {f : Nat → Int} (h : MemAt w p ml mc f) (hb : Below w.heap.size w w') : MemAt w' p ml mc f :=
  ⟨h.top, h.cap, h.rng, fun h0 => by
    obtain ⟨g, o, e, hg, hl⟩ := h.ad h0
    exact ⟨g, o, e, Nat.lt_of_lt_of_le hg hb.size, fun i hi => (hb.cell (p := ⟨g, o + i, none⟩) hg).trans (hl i hi)⟩⟩
theorem fit_nat {many : Int} {A ml : Nat} (h : Fit many A ml) : ∃ m : Nat, many = m ∧ (m = 1 ∨ m = 2 ∨ m = 4) ∧ A % m = 0 ∧ A + m ≤ ml := by
  obtain ⟨h1, h2, h3⟩ := h
  rcases h1 with rfl | rfl | rfl
  · exact ⟨1, rfl, .inl rfl, by omega, by omega⟩
  · exact ⟨2, rfl, .inr (.inl rfl), by omega, by omega⟩
  · exact ⟨4, rfl, .inr (.inr rfl), by omega, by omega⟩
/-- What See answers. -/
def seeR (l : List Ac) (seq : Int) (n : Nat) (many : Int) (A : Nat) (f : Nat → Int) : Int := le (sb l seq n A f) many.toNat
theorem sure_ex (l : List Ac) (seq : Int) (n : Nat) (hl : l.length = n) : ∃ U, Sure l seq n U := by
  obtain ⟨m, hm⟩ := firstA_ex (unk seq) l
  by_cases h : m < n
  · refine ⟨false, fun h => (nomatch h), fun h2 => ?_⟩
    obtain ⟨q, hq⟩ := atA_ex (l := l) (k := m) (by omega)
    have h1 := h2 m q h hq
    rw [hm.yes q hq] at h1
    cases h1
  · exact ⟨true, fun _ j q hj hq => hm.no j q (by omega) hq, fun _ => rfl⟩
theorem uSee_fit {a : Option Addr} {n c : Nat} {l : List Ac} (hok : ∀ q ∈ l, q.Ok) {p : Option Addr} {ml mc : Nat} {f : Nat → Int} {seq many : Int} {A : Nat} (hA : A ≤ 4294967295) (hF : Fit many A ml) {U : Bool} (hU : Sure l seq n U) (hn : n ≤ 140737488355328) {w : World} (hL : LC w a n c 7 (acs l)) (hM : MemAt w p ml mc f) :
    Calls Try.prog 42 #[.slice a n c, .slice p ml mc, .int .i64 seq, .int .u32 A, .int .i64 many] w fun e w' => e = .returned (.tuple #[.int .u32 (seeR l seq n many A f), .bool true, .bool U]) ∧ Below w.heap.size w w' := by
  obtain ⟨m, rfl, hm, hA0, hAm⟩ := fit_nat hF
  obtain ⟨g, o, rfl, hg, hl⟩ := hM.ad (by omega)
  exact uSee_yes a n c l hok g o ml mc hM.cap f seq A m hA hM.top hm hA0 hAm hM.rng _ rfl U hU hn w hL hl hg
theorem ySee_fit {a : Option Addr} {n c : Nat} {l : List Ac} (hok : ∀ q ∈ l, q.Ok) {p : Option Addr} {ml mc : Nat} {f : Nat → Int} {seq many : Int} {A : Nat} (hA : A ≤ 4294967295) (hF : Fit many A ml) {U : Bool} (hU : Sure l seq n U) (hn : n ≤ 140737488355328) {w : World} (hL : LC w a n c 7 (acs l)) (hM : MemAt w p ml mc f) :
    Calls Try.prog 43 #[.slice a n c, .slice p ml mc, .int .i64 seq, .int .u32 A, .int .i64 many] w fun e w' => e = .returned (.tuple #[.int .u32 (seeR l seq n many A f), .bool true, .bool U]) ∧ Below w.heap.size w w' := by
  obtain ⟨m, rfl, hm, hA0, hAm⟩ := fit_nat hF
  obtain ⟨g, o, rfl, hg, hl⟩ := hM.ad (by omega)
  exact ySee_yes a n c l hok g o ml mc f seq A m hA hM.top hm hA0 hAm hM.rng _ rfl U hU hn w hL hl hg
/-- Program and document alike. -/
theorem see_both (a : Option Addr) (n c : Nat) (l : List Ac) (hok : ∀ q ∈ l, q.Ok) (p : Option Addr) (ml mc : Nat) (f : Nat → Int) (seq many : Int) (A : Nat) (hA : A ≤ 4294967295) (hn : n ≤ 140737488355328) (w0 : World) (hL0 : LC w0 a n c 7 (acs l)) (hM0 : MemAt w0 p ml mc f) : ∃ (R : Int) (b U : Bool),
    (∀ w, Hid (LC w a n c 7 (acs l)) → Hid (MemAt w p ml mc f) → Calls Try.prog 42 #[.slice a n c, .slice p ml mc, .int .i64 seq, .int .u32 A, .int .i64 many] w fun e w' => e = .returned (.tuple #[.int .u32 R, .bool b, .bool U]) ∧ Below w.heap.size w w') ∧
    (∀ w, Hid (LC w a n c 7 (acs l)) → Hid (MemAt w p ml mc f) → Calls Try.prog 43 #[.slice a n c, .slice p ml mc, .int .i64 seq, .int .u32 A, .int .i64 many] w fun e w' => e = .returned (.tuple #[.int .u32 R, .bool b, .bool U]) ∧ Below w.heap.size w w') := by
  have hlen : l.length = n := by have := hL0.len; rw [acs_len] at this; omega
  by_cases hF : Fit many A ml
  · obtain ⟨U, hU⟩ := sure_ex l seq n hlen
    exact ⟨_, _, _, fun w hL hM => uSee_fit hok hA hF hU hn hL hM, fun w hL hM => ySee_fit hok hA hF hU hn hL hM⟩
  · exact ⟨_, _, _, fun w hL hM => uSee_no a n c p ml mc seq many A hA hM0.top hF w, fun w hL hM => ySee_no a n c p ml mc seq many A hA hM0.top hF w⟩
set_option maxRecDepth 20000 in
theorem sees (a : Option Addr) (n c : Nat) (l : List Ac) (hok : ∀ q ∈ l, q.Ok) (p : Option Addr) (ml mc : Nat) (f : Nat → Int) (seq many : Int) (A : Nat) (hA : A ≤ 4294967295) (hn : n ≤ 140737488355328) (w : World) (hL0 : LC w a n c 7 (acs l)) (hM0 : MemAt w p ml mc f) :
    Calls Try.prog 10 #[.slice a n c, .slice p ml mc, .int .i64 seq, .int .u32 A, .int .i64 many] w fun e w' => e = .returned (.bool true) ∧ Below w.heap.size w w' := by
  obtain ⟨R, b, U, C1, C2⟩ := see_both a n c l hok p ml mc f seq many A hA hn w hL0 hM0
  have HL : Hid (LC w a n c 7 (acs l)) := hL0
  have HM : Hid (MemAt w p ml mc f) := hM0
  clear hL0 hM0
  go_enter Try.func10, Try.ntmps10
  go_wp2_with fail
  refine (C1 _ HL HM).mono ?_
  rintro e W1 ⟨rfl, hk⟩
  have H1 : Hid (Below w.heap.size w W1) := hk
  clear hk C1
  go_wp2_with fail
  refine (C2 _ (HL.out.below (Nat.le_refl _) H1.out) (HM.out.below H1.out)).mono ?_
  rintro e W2 ⟨rfl, hk⟩
  have H2 : Hid (Below w.heap.size w W2) := H1.out.trans (hk.mono H1.out.size)
  clear hk C2
  go_wp2_with fail
  go_ret
  exact ⟨rfl, H2.out⟩
theorem sb_plain {l : List Ac} {seq : Int} {n : Nat} (h : ∀ x, bst l seq x n = none) (A : Nat) (f : Nat → Int) : sb l seq n A f = fun i => f (A + i) := by
  funext i
  exact seen_none (h _)
theorem see_plain {l : List Ac} {seq : Int} {n : Nat} (h : ∀ x, bst l seq x n = none) (many : Int) (A : Nat) (f : Nat → Int) : seeR l seq n many A f = le (fun i => f (A + i)) many.toNat := by
  unfold seeR; rw [sb_plain h]
theorem one_none {q : Ac} {seq : Int} (h : seq ≤ q.seq) : ∀ x, bst [q] seq x 1 = none := fun x => by
  rw [bst_no (a := q) rfl (gv_no1 (ahd_no2 h))]
  rfl
theorem one_sure {q : Ac} {seq : Int} (h : seq ≤ q.seq) : Sure [q] seq 1 true := ⟨fun _ j p hj hp => by
  obtain rfl : j = 0 := by omega
  cases hp
  exact unk_no1 (ahd_no2 h), fun _ => rfl⟩
theorem nil_sure (seq : Int) : Sure [] seq 0 true := ⟨fun _ j p hj => absurd hj (by omega), fun _ => rfl⟩
end Go.Proofs.Ytpiohehijkpghab
