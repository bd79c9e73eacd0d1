/- OrderPlain walked. -/
import Derived.Test.YtpiohehijkpghabOrdL
namespace Go.Proofs.Ytpiohehijkpghab
open Go.RowKit
open Hy
set_option linter.unusedVariables false
set_option linter.unusedSimpArgs false
theorem lc_box7 {w : World} {g : Nat} {p : Ac} (h : Box w g p) : LC w (some ⟨g, 0, none⟩) 1 1 7 (acs [p]) :=
  ⟨rfl, Nat.le_refl _, by unfold maxLen; omega, fun h => (nomatch h), acs_one _, fun x hx _ => ⟨g, 0, (Option.some.inj hx).symm, heap_lt h, fun j u hj => by
    rw [Nat.zero_add]
    exact h.cell (by simpa [acs] using hj)⟩⟩
/-- The four bytes. -/
def f4 (i : Nat) : Int := if i = 0 then 1 else if i = 1 then 2 else if i = 2 then 3 else 4
theorem mem4 {w : World} {g : Nat} {t : TypeId} (h : w.heap[g]? = some (.cells #[.int .u8 1, .int .u8 2, .int .u8 3, .int .u8 4] t (0, 0))) : MemAt w (some ⟨g, 0, none⟩) 4 4 f4 :=
  ⟨by omega, by omega, fun i hi => by unfold f4; split <;> (try split) <;> (try split) <;> omega, fun _ => ⟨g, 0, rfl, heap_lt h, fun i hi => by
    rw [Nat.zero_add, cell_of_row _ _ _ _ _ _ h]
    rcases (by omega : i = 0 ∨ i = 1 ∨ i = 2 ∨ i = 3) with rfl | rfl | rfl | rfl <;> rfl⟩⟩
theorem fit4 : Fit 2 0 4 := ⟨.inr (.inl rfl), rfl, by decide⟩
theorem see4 : seeR [] 0 0 2 0 f4 = 513 := by
  rw [see_plain (fun _ => rfl)]
  rfl
theorem row_setCell {w : World} {b i : Nat} {cs : Array Value} {t : TypeId} {fr : Nat × Nat} {v : Value} (h : w.heap[b]? = some (.cells cs t fr)) : (w.setCell ⟨b, i, none⟩ v).heap[b]? = some (.cells (cs.setIfInBounds i v) t fr) := by
  simp [World.setCell, Array.getElem?_modify, h]
theorem Box.put {w : World} {b : Nat} {q : Ac} (h : Box w b q) (s : Int) : Box (w.setCell ⟨b, 0, none⟩ (.int .i64 s)) b { q with seq := s } := row_setCell h
theorem Box.frozen {w : World} {b : Nat} {q : Ac} (h : Box w b q) (j : Nat) : w.frozen? ⟨b, j, none⟩ = false := by
  unfold Box at h
  unfold World.frozen?
  simp [h]
theorem plain_three (p : Option Addr) (ml mc : Nat) (f : Nat → Int) (A : Nat) (hA : A ≤ 4294967295) (q : Ac) (hq : q.Ok) (w0 : World) (hM0 : MemAt w0 p ml mc f) : ∃ (R : Int) (b : Bool),
    (∀ w : World, Hid (MemAt w p ml mc f) → Calls Try.prog 42 #[.slice none 0 0, .slice p ml mc, .int .i64 7, .int .u32 A, .int .i64 4] w fun e w' => e = .returned (.tuple #[.int .u32 R, .bool b, .bool b]) ∧ Below w.heap.size w w') ∧
    (∀ w : World, Hid (MemAt w p ml mc f) → Calls Try.prog 46 #[.slice p ml mc, .int .i64 13, .int .u32 A] w fun e w' => e = .returned (.tuple #[.int .u32 R, .bool b]) ∧ w' = w) ∧
    (∀ (w : World) (g : Nat), Hid (Box w g { q with seq := 8 }) → Hid (MemAt w p ml mc f) → Calls Try.prog 42 #[.slice (some ⟨g, 0, none⟩) 1 1, .slice p ml mc, .int .i64 7, .int .u32 A, .int .i64 4] w fun e w' => e = .returned (.tuple #[.int .u32 R, .bool b, .bool b]) ∧ Below w.heap.size w w') := by
  have hok : ∀ x ∈ [({ q with seq := 8 } : Ac)], x.Ok := fun x hx => by
    simp at hx
    subst hx
    exact ⟨hq.p0, hq.p1, hq.d0, hq.d1, hq.m0, hq.m1⟩
  by_cases hF : Fit 4 A ml
  · refine ⟨le (fun i => f (A + i)) 4, true, fun w hm => ?_, fun w hm => ?_, fun w g hb hm => ?_⟩
    · have := uSee_fit (a := none) (n := 0) (c := 0) (l := []) (fun q hq => by cases hq) (seq := 7) hA hF (nil_sure 7) (by omega) (w := w) (lc_none _ _) hm.out
      rw [see_plain (fun _ => rfl)] at this
      exact this
    · obtain ⟨m, hm4, _, hA0, hAm⟩ := fit_nat hF
      obtain rfl : m = 4 := by omega
      obtain ⟨g, o, rfl, hg, hl⟩ := hm.out.ad (by omega)
      exact Load_any g o ml mc 13 A 4 (fun i => f (A + i)) rfl hm.out.top (by omega) (by omega) hA0 hAm hm.out.cap w (fun i hi => hm.out.rng _ (by omega)) (fun i hi => by rw [Nat.add_assoc]; exact hl _ (by omega))
    · have := uSee_fit (a := some ⟨g, 0, none⟩) (n := 1) (c := 1) (l := [{ q with seq := 8 }]) hok (seq := 7) hA hF (one_sure (by simp)) (by omega) (w := w) (lc_box7 hb.out) hm.out
      rw [see_plain (one_none (by simp))] at this
      exact this
  · exact ⟨0, false, fun w hm => uSee_no none 0 0 p ml mc 7 4 A hA hm.out.top hF w, fun w hm => Load_no p ml mc 13 A hm.out.top (by omega) (by omega) (fun ⟨_, h2, h3⟩ => hF ⟨.inr (.inr rfl), h2, h3⟩) w, fun w g hb hm => uSee_no _ 1 1 p ml mc 7 4 A hA hm.out.top hF w⟩
set_option maxRecDepth 20000 in
set_option maxHeartbeats 1000000 in
theorem plain (p : Option Addr) (ml mc : Nat) (f : Nat → Int) (A : Nat) (hA : A ≤ 4294967295) (q : Ac) (hq : q.Ok) (w : World) (hM0 : MemAt w p ml mc f) :
    Calls Try.prog 12 #[.slice p ml mc, .int .u32 A, acv q] w fun e w' => e = .returned (.bool true) ∧ Below w.heap.size w w' := by
  obtain ⟨R, b, C1, C2, C3⟩ := plain_three p ml mc f A hA q hq w hM0
  have HM : Hid (MemAt w p ml mc f) := hM0
  clear hM0
  have C4 := fun (w : World) (g : Nat) (hm : Hid (MemAt w (some ⟨g, 0, none⟩) 4 4 f4)) => uSee_fit (a := none) (n := 0) (c := 0) (l := []) (fun q hq => by cases hq) (p := some ⟨g, 0, none⟩) (mc := 4) (f := f4) (seq := 0) (A := 0) (by omega) fit4 (nil_sure 0) (by omega) (w := w) (lc_none _ _) hm.out
  rw [see4] at C4
  go_enter Try.func12, Try.ntmps12
  go_upto_region 1 with fail
  refine one_box (Φ := fun W => Code.wp _ _ _ _ W) ?_
  intro V hV hVb
  have BV : Hid (Box V w.heap.size q) := hV
  have H0 : Hid (Below w.heap.size w V) := hVb
  clear hV hVb
  go_wp2_with fail
  refine (C1 _ (HM.out.below H0.out)).mono ?_
  rintro e W1 ⟨rfl, hk⟩
  have H1 : Hid (Below w.heap.size w W1) := H0.out.trans (hk.mono H0.out.size)
  have B1 : Hid (Box W1 w.heap.size q) := BV.out.below (Nat.le_refl _) hk
  clear hk C1
  go_wp2_with fail
  refine (C2 _ (HM.out.below H1.out)).mono ?_
  rintro e W1' ⟨rfl, rfl⟩
  clear C2
  have c0 : W1'.cell? ⟨w.heap.size, 0, none⟩ = some (.int .i64 q.seq) := B1.out.cell rfl
  have z0 : W1'.frozen? ⟨w.heap.size, 0, none⟩ = false := B1.out.frozen 0
  go_upto_region 6 with fail
  have BU : Hid (Box (W1'.setCell ⟨w.heap.size, 0, none⟩ (.int .i64 8)) w.heap.size { q with seq := 8 }) := B1.out.put 8
  have HU : Hid (Below w.heap.size w (W1'.setCell ⟨w.heap.size, 0, none⟩ (.int .i64 8))) := H1.out.setCell (Nat.le_refl _) _
  obtain ⟨U, hU⟩ : ∃ U, U = W1'.setCell ⟨w.heap.size, 0, none⟩ (.int .i64 8) := ⟨_, rfl⟩
  rw [← hU] at BU HU ⊢
  clear hU c0 z0 B1 H1
  go_wp2_with (refine wpList_load_row rfl 76 _ rfl _ rfl 76 _ (0, 0) _ BU.out Try.underlying76 rfl info7 ?_)
  refine one_box (Φ := fun W => Calls _ _ _ W _) ?_
  intro V2 hV hVb
  have H2 : Hid (Below w.heap.size w V2) := HU.out.trans (hVb.mono HU.out.size)
  have B2 : Hid (Box V2 U.heap.size { q with seq := 8 }) := hV
  clear hV hVb
  refine (C3 _ _ B2 (HM.out.below H2.out)).mono ?_
  rintro e W3 ⟨rfl, hk⟩
  have H3 : Hid (Below w.heap.size w W3) := H2.out.trans (hk.mono H2.out.size)
  clear hk C3 B2
  go_wp2_with fail
  refine one_box (Φ := fun W => Calls _ _ _ W _) ?_
  intro V4 hV hVb
  have H4 : Hid (Below w.heap.size w V4) := H3.out.trans (hVb.mono H3.out.size)
  have M4 : Hid (MemAt V4 (some ⟨W3.heap.size, 0, none⟩) 4 4 f4) := mem4 hV
  clear hV hVb
  refine (C4 _ _ M4).mono ?_
  rintro e W5 ⟨rfl, hk⟩
  have H5 : Hid (Below w.heap.size w W5) := H4.out.trans (hk.mono H4.out.size)
  clear hk C4 M4
  go_wp2_with fail
  go_ret
  exact ⟨rfl, H5.out⟩
end Go.Proofs.Ytpiohehijkpghab
