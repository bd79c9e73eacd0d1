/- Taking a register: the program. -/
import Derived.Test.YtpiohehijkpghabRenH
namespace Go.Proofs.Ytpiohehijkpghab
open Go.RowKit Go.Maps
open Hy
set_option linter.unusedVariables false
theorem row_setCell {w : World} {b i : Nat} {cs : Array Value} {t : TypeId} {fr : Nat × Nat} {v : Value} (h : w.heap[b]? = some (.cells cs t fr)) : (w.setCell ⟨b, i, none⟩ v).heap[b]? = some (.cells (cs.setIfInBounds i v) t fr) := by
  simp [World.setCell, Array.getElem?_modify, h]
theorem row_setCell_other {w : World} {b g i : Nat} {o : Obj} {v : Value} (h : w.heap[g]? = some o) (hne : b ≠ g) : (w.setCell ⟨b, i, none⟩ v).heap[g]? = some o := by
  simp [World.setCell, Array.getElem?_modify, h, hne]
theorem heap_set_other {w : World} {b g i : Nat} (v : Value) (h : g ≠ b) : (w.setCell ⟨b, i, none⟩ v).heap[g]? = w.heap[g]? := by
  simp [World.setCell, Array.getElem?_modify, Ne.symm h]
theorem below_row {B : Nat} {a w : World} (h : Below B a w) {g : Nat} (hg : B ≤ g) (cs : Array Value) : Below B a (w.setRow g cs) :=
  ⟨h.os, h.tape, h.output, by simpa using h.size, fun k hk => (setRow_other _ _ _ _ (by omega)).trans (h.block k hk)⟩
theorem yieldsIf_load_row {P : Program} {ops : Array Oper} {S : World → Prop} {op : Oper} {a : Act} (hw : Region.wanted op (yielded ops a.tmps) = true) (ty : TypeId) (x : Operand) (ho : op.op = .load ty x)
    (g : Nat) (hx : a.eval x = .pointer (some ⟨g, 0, none⟩)) (t : TypeId) (cs : Array Value) (fr : Nat × Nat) (d : TypeDesc) (hS : ∀ w, S w → w.heap[g]? = some (.cells cs t fr))
    (hu : P.underlying ty = some d) (hd : (match d with | .struct _ | .array _ _ => true | _ => false) = true) (hi : (P.info? ty).map (·.size) = some cs.size) : YieldsIf P ops S op (.agg cs) a :=
  .inl ⟨hw, fun w hw' => by
    unfold execOp
    simp only [ho, hx, Instr.loadAt, Instr.sureAddr, Sem.run_bind, Sem.run_pure, Result.andThen_ok, run_loadVar_row w g t ty cs fr d (hS w hw') hu hd hi]⟩
theorem two_new {Φ : World → Prop} {w : World} {A B : Obj} (h : ∀ W : World, W.heap[w.heap.size]? = some A → W.heap[w.heap.size + 1]? = some B → Below w.heap.size w W → w.heap.size + 2 ≤ W.heap.size → Φ W) : Φ ((w.alloc A).alloc B) :=
  h _ (heap_alloc2_old _ _ _) (heap_alloc2_new _ _ _) (((Below.refl _ _).alloc (Nat.le_refl _) _).alloc (by simp) _) (by simp)
/-- The empty map. -/
abbrev zm : Array Value := mcs 0 (fun _ => 0) (.slice none 0 0)
theorem zm_size : zm.size = 34 := rfl
theorem ones_mcs (P : Int) (r : Nat → Int) (a : Option Addr) (n c : Nat) : (mcs P r (.slice a n c)).all (·.oneCell') = true := by simp [Value.oneCell']
set_option maxRecDepth 20000 in
set_option maxHeartbeats 1000000 in
theorem nTake_far (T : Array Value) (P : Int) (r f : Nat → Int) (a : Option Addr) (n c : Nat) (hT : Hid (T = mcs P r (.slice a n c))) (hm : Hid (MayBe P n r f))
    (h0 : T[0]? = some (.int .i64 P)) (hF : T[33]? = some (.slice a n c)) (hR : Hid (Rg r)) (k : Nat) (k0 : 1 ≤ k) (k1 : k < 32) (hn : 0 < n) (w : World) (hL : Hid (Lie w a n c f)) :
    Calls Try.prog 26 #[.agg T, .int .i64 k] w fun e w' => (∃ a' c', e = .returned (.tuple #[.agg (mcs P (up r k (f 0)) (.slice a' (n - 1) c')), .int .i64 (f 0), .int .i64 (r k), .bool true]) ∧ Lie w' a' (n - 1) c' (tl f) ∧ Far w.heap.size a') ∧ Below w.heap.size w w' := by
  have hn64 := hm.out.few.2
  have C1 := fun w => nMay_any T P r f a n c true hT ⟨fun _ => hm.out, fun _ => rfl⟩ h0 hF hR (by omega) w
  have C2 := nnamed_any (k : Int)
  rw [decide_eq_true (⟨by omega, by omega⟩ : (1 : Int) ≤ k ∧ (k : Int) < 32)] at C2
  obtain ⟨b, o, rfl, hb, hc⟩ := hL.out.sure hn
  have hcR : T[1 + k]? = some (.int .i64 (r k)) := by rw [hT.out]; exact mcs_R _ _ _ _ k1
  have HI : Hid ((Try.prog.info? 42).map (·.size) = some T.size) := map_info hT.out
  go_enter Try.func26, Try.ntmps26
  go_upto_region 1 with fail
  refine two_new (Φ := fun W => Code.wp _ _ _ _ W) ?_
  intro W HR' HZ' HB' hs0
  have HR : Hid (W.heap[w.heap.size]? = some (.cells T 42 (0, 0))) := HR'
  have HB : Hid (Below w.heap.size w W) := HB'
  obtain ⟨Z, hZ, HZ⟩ : ∃ Z : Array Value, Hid (Z.size = 34) ∧ Hid (W.heap[w.heap.size + 1]? = some (.cells Z 42 (0, 0))) := ⟨zm, zm_size, HZ'⟩
  clear HR' HZ' HB'
  go_wp2_with (refine wpList_load_row_g (by rfl) 42 _ rfl _ rfl 42 _ (0, 0) _ HR.out Try.underlying42 rfl HI.out ?_)
  refine (C1 _ (hL.out.below (Nat.le_refl _) HB.out)).mono ?_
  rintro e W1 ⟨rfl, hk⟩
  have HR1 : Hid (W1.heap[w.heap.size]? = some (.cells T 42 (0, 0))) := (hk.block _ (heap_lt HR.out)).trans HR.out
  have HZ1 : Hid (W1.heap[w.heap.size + 1]? = some (.cells Z 42 (0, 0))) := (hk.block _ (heap_lt HZ.out)).trans HZ.out
  have HB1 : Hid (Below w.heap.size w W1) := HB.out.trans (hk.mono HB.out.size)
  have hs1 : w.heap.size + 1 < W1.heap.size := heap_lt HZ1.out
  clear hk HR HZ HB hs0 C1
  go_wp2_with fail
  refine (C2 _).mono ?_
  rintro e w' ⟨rfl, rfl⟩
  have c33 : w'.cell? ⟨w.heap.size, 33, none⟩ = some (.slice (some ⟨b, o, none⟩) n c) := (cell_of_row _ w.heap.size _ _ _ _ HR1.out).trans hF
  have cR : w'.cell? ⟨w.heap.size, 1 + k, none⟩ = some (.int .i64 (r k)) := (cell_of_row _ w.heap.size _ _ _ _ HR1.out).trans hcR
  have cF : w'.cell? ⟨b, o, none⟩ = some (.int .i64 (f 0)) := (HB1.out.cell (p := ⟨b, o, none⟩) hb).trans (hc 0 hn)
  have hf : ∀ j, w'.frozen? ⟨w.heap.size, j, none⟩ = false := fun j => frozen_of_row _ _ j _ _ HR1.out
  clear hc C2
  go_wp2_with fail
  go_region
  go_wp2_with fail
  case inl =>
    have hc1 : c = 1 := by first | assumption | omega
    subst hc1
    have HB2 : Hid (Below w.heap.size w ((w'.setCell ⟨w.heap.size, 1 + k, none⟩ (.int .i64 (f 0))).drew)) := (HB1.out.setCell (Nat.le_refl _) _).drew
    have HR2 : Hid (((w'.setCell ⟨w.heap.size, 1 + k, none⟩ (.int .i64 (f 0))).drew).heap[w.heap.size]? = some (.cells (T.setIfInBounds (1 + k) (.int .i64 (f 0))) 42 (0, 0))) := row_setCell HR1.out
    have HZ2 : Hid (((w'.setCell ⟨w.heap.size, 1 + k, none⟩ (.int .i64 (f 0))).drew).heap[w.heap.size + 1]? = some (.cells Z 42 (0, 0))) := row_setCell_other HZ1.out (by omega)
    clear HR1 HZ1 c33 cR cF hf HB1 hs1
    generalize (w'.setCell ⟨w.heap.size, 1 + k, none⟩ (.int .i64 (f 0))).drew = W2 at *
    have hl2 : Hid (Lie W2 (some ⟨b, o, none⟩) (n - 1) 0 (tl f)) := ⟨by have := hL.out.le; omega, by unfold maxLen; omega, fun h => (nomatch h), fun i hi => absurd hi (by have := hL.out.le; omega), fun x hx _ => ⟨b, o, (Option.some.inj hx).symm, fun i hi => absurd hi (by have := hL.out.le; omega)⟩⟩
    refine (iClone_some b (o) (n - 1) (0) (tl f) (by omega) _ hl2).mono ?_
    rintro e W3 ⟨⟨a', c', rfl, hl, hfar⟩, hk⟩
    have HL3 : Hid (Lie W3 a' (n - 1) c' (tl f)) := hl
    have HA3 : Hid (Far (w.heap.size + 2) a') := hfar.mono (by have := heap_lt HZ2.out; omega)
    have HR3 : Hid (W3.heap[w.heap.size]? = some (.cells (T.setIfInBounds (1 + k) (.int .i64 (f 0))) 42 (0, 0))) := (hk.block _ (heap_lt HR2.out)).trans HR2.out
    have HZ3 : Hid (W3.heap[w.heap.size + 1]? = some (.cells Z 42 (0, 0))) := (hk.block _ (heap_lt HZ2.out)).trans HZ2.out
    have HB3 : Hid (Below w.heap.size w W3) := HB2.out.trans (hk.mono HB2.out.size)
    have hs3 : w.heap.size + 1 < W3.heap.size := heap_lt HZ3.out
    clear hk hl hfar HR2 HZ2 HB2 hl2
    obtain ⟨M, hM⟩ : ∃ M, Hid (M = mcs P (up r k (f 0)) (.slice a' (n - 1) c')) := ⟨_, rfl⟩
    have eM : (T.setIfInBounds (1 + k) (.int .i64 (f 0))).setIfInBounds 33 (.slice a' (n - 1) c') = M := by rw [hM.out, hT.out, set_R _ _ _ _ _ k1, set_F]
    have c33 : W3.cell? ⟨w.heap.size, 33, none⟩ = some (.slice (some ⟨b, o, none⟩) n 1) := (cell_of_row _ w.heap.size _ _ _ _ HR3.out).trans (by rw [hT.out, set_R _ _ _ _ _ k1]; rfl)
    have hf : ∀ j, W3.frozen? ⟨w.heap.size, j, none⟩ = false := fun j => frozen_of_row _ _ j _ _ HR3.out
    have HR4 : Hid ((W3.setCell ⟨w.heap.size, 33, none⟩ (.slice a' (n - 1) c')).heap[w.heap.size]? = some (.cells M 42 (0, 0))) := by rw [← eM]; exact row_setCell HR3.out
    have HZ4 : Hid ((W3.setCell ⟨w.heap.size, 33, none⟩ (.slice a' (n - 1) c')).heap[w.heap.size + 1]? = some (.cells Z 42 (0, 0))) := row_setCell_other HZ3.out (by omega)
    have HB4 : Hid (Below w.heap.size w (W3.setCell ⟨w.heap.size, 33, none⟩ (.slice a' (n - 1) c'))) := HB3.out.setCell (Nat.le_refl _) _
    have MI : Hid ((Try.prog.info? 42).map (·.size) = some M.size) := map_info hM.out
    have MO : Hid (M.all (·.oneCell') = true) := by show _ = _; rw [hM.out]; exact ones_mcs _ _ _ _ _
    have MZ : Hid (Z.size = M.size) := by show _ = _; rw [hM.out, hZ.out]; rfl
    clear eM HR3 HZ3 HB3
    go_wp2_with (first | (refine wpList_load_row_g (by rfl) 42 _ rfl _ rfl 42 _ (0, 0) _ HR4.out Try.underlying42 rfl MI.out ?_) | (refine wpList_store_row rfl 42 _ _ rfl _ _ rfl rfl 42 _ HZ4.out MI.out MZ.out MO.out ?_))
    refine bodyPost_ret (v := .tuple #[.agg M, .int .i64 (f 0), .int .i64 (r k), .bool true]) ?_ rfl ⟨⟨a', c', by rw [hM.out], ?_, HA3.out.mono (by omega)⟩, ?_⟩
    · have L2 := run_loadVar_row (P := Try.prog) _ _ 42 42 M (0, 0) _ (setRow_heap _ _ _ _ _ _ HZ4.out) Try.underlying42 rfl MI.out
      simp [results, Try.results26, asAddr, L2]
    · refine HL3.out.moved fun x hx => ?_
      have := HA3.out x hx
      rw [setRow_other _ _ _ _ (by omega)]
      exact heap_set_other _ (by omega)
    · exact below_row HB4.out (by omega) _
  case inr =>
    have HB2 : Hid (Below w.heap.size w ((w'.setCell ⟨w.heap.size, 1 + k, none⟩ (.int .i64 (f 0))).drew)) := (HB1.out.setCell (Nat.le_refl _) _).drew
    have HR2 : Hid (((w'.setCell ⟨w.heap.size, 1 + k, none⟩ (.int .i64 (f 0))).drew).heap[w.heap.size]? = some (.cells (T.setIfInBounds (1 + k) (.int .i64 (f 0))) 42 (0, 0))) := row_setCell HR1.out
    have HZ2 : Hid (((w'.setCell ⟨w.heap.size, 1 + k, none⟩ (.int .i64 (f 0))).drew).heap[w.heap.size + 1]? = some (.cells Z 42 (0, 0))) := row_setCell_other HZ1.out (by omega)
    clear HR1 HZ1 c33 cR cF hf HB1 hs1
    generalize (w'.setCell ⟨w.heap.size, 1 + k, none⟩ (.int .i64 (f 0))).drew = W2 at *
    have hl2 : Hid (Lie W2 (some ⟨b, o + 1, none⟩) (n - 1) (c - 1) (tl f)) := by
      have hl1 := hL.out.below (Nat.le_refl _) HB2.out
      refine ⟨by have := hl1.le; omega, by have := hl1.top; omega, fun h => (nomatch h), fun i hi => hl1.wf (i + 1) (by omega), fun x hx _ => ⟨b, o + 1, (Option.some.inj hx).symm, fun i hi => ?_⟩⟩
      obtain ⟨b', o', e, hc⟩ := hl1.ad _ rfl hn
      cases e
      have := hc (i + 1) (by omega)
      rw [show o + 1 + i = o + (i + 1) by omega]
      exact this
    refine (iClone_some b (o + 1) (n - 1) (c - 1) (tl f) (by omega) _ hl2).mono ?_
    rintro e W3 ⟨⟨a', c', rfl, hl, hfar⟩, hk⟩
    have HL3 : Hid (Lie W3 a' (n - 1) c' (tl f)) := hl
    have HA3 : Hid (Far (w.heap.size + 2) a') := hfar.mono (by have := heap_lt HZ2.out; omega)
    have HR3 : Hid (W3.heap[w.heap.size]? = some (.cells (T.setIfInBounds (1 + k) (.int .i64 (f 0))) 42 (0, 0))) := (hk.block _ (heap_lt HR2.out)).trans HR2.out
    have HZ3 : Hid (W3.heap[w.heap.size + 1]? = some (.cells Z 42 (0, 0))) := (hk.block _ (heap_lt HZ2.out)).trans HZ2.out
    have HB3 : Hid (Below w.heap.size w W3) := HB2.out.trans (hk.mono HB2.out.size)
    have hs3 : w.heap.size + 1 < W3.heap.size := heap_lt HZ3.out
    clear hk hl hfar HR2 HZ2 HB2 hl2
    obtain ⟨M, hM⟩ : ∃ M, Hid (M = mcs P (up r k (f 0)) (.slice a' (n - 1) c')) := ⟨_, rfl⟩
    have eM : (T.setIfInBounds (1 + k) (.int .i64 (f 0))).setIfInBounds 33 (.slice a' (n - 1) c') = M := by rw [hM.out, hT.out, set_R _ _ _ _ _ k1, set_F]
    have c33 : W3.cell? ⟨w.heap.size, 33, none⟩ = some (.slice (some ⟨b, o, none⟩) n c) := (cell_of_row _ w.heap.size _ _ _ _ HR3.out).trans (by rw [hT.out, set_R _ _ _ _ _ k1]; rfl)
    have hf : ∀ j, W3.frozen? ⟨w.heap.size, j, none⟩ = false := fun j => frozen_of_row _ _ j _ _ HR3.out
    have HR4 : Hid ((W3.setCell ⟨w.heap.size, 33, none⟩ (.slice a' (n - 1) c')).heap[w.heap.size]? = some (.cells M 42 (0, 0))) := by rw [← eM]; exact row_setCell HR3.out
    have HZ4 : Hid ((W3.setCell ⟨w.heap.size, 33, none⟩ (.slice a' (n - 1) c')).heap[w.heap.size + 1]? = some (.cells Z 42 (0, 0))) := row_setCell_other HZ3.out (by omega)
    have HB4 : Hid (Below w.heap.size w (W3.setCell ⟨w.heap.size, 33, none⟩ (.slice a' (n - 1) c'))) := HB3.out.setCell (Nat.le_refl _) _
    have MI : Hid ((Try.prog.info? 42).map (·.size) = some M.size) := map_info hM.out
    have MO : Hid (M.all (·.oneCell') = true) := by show _ = _; rw [hM.out]; exact ones_mcs _ _ _ _ _
    have MZ : Hid (Z.size = M.size) := by show _ = _; rw [hM.out, hZ.out]; rfl
    clear eM HR3 HZ3 HB3
    go_wp2_with (first | (refine wpList_load_row_g (by rfl) 42 _ rfl _ rfl 42 _ (0, 0) _ HR4.out Try.underlying42 rfl MI.out ?_) | (refine wpList_store_row rfl 42 _ _ rfl _ _ rfl rfl 42 _ HZ4.out MI.out MZ.out MO.out ?_))
    refine bodyPost_ret (v := .tuple #[.agg M, .int .i64 (f 0), .int .i64 (r k), .bool true]) ?_ rfl ⟨⟨a', c', by rw [hM.out], ?_, HA3.out.mono (by omega)⟩, ?_⟩
    · have L2 := run_loadVar_row (P := Try.prog) _ _ 42 42 M (0, 0) _ (setRow_heap _ _ _ _ _ _ HZ4.out) Try.underlying42 rfl MI.out
      simp [results, Try.results26, asAddr, L2]
    · refine HL3.out.moved fun x hx => ?_
      have := HA3.out x hx
      rw [setRow_other _ _ _ _ (by omega)]
      exact heap_set_other _ (by omega)
    · exact below_row HB4.out (by omega) _
theorem nTake_yes (T : Array Value) (P : Int) (r f : Nat → Int) (a : Option Addr) (n c : Nat) (hT : Hid (T = mcs P r (.slice a n c))) (hm : Hid (MayBe P n r f))
    (h0 : T[0]? = some (.int .i64 P)) (hF : T[33]? = some (.slice a n c)) (hR : Hid (Rg r)) (k : Nat) (k0 : 1 ≤ k) (k1 : k < 32) (hn : 0 < n) (w : World) (hL : Hid (Lie w a n c f)) :
    Calls Try.prog 26 #[.agg T, .int .i64 k] w fun e w' => (∃ a' c', e = .returned (.tuple #[.agg (mcs P (up r k (f 0)) (.slice a' (n - 1) c')), .int .i64 (f 0), .int .i64 (r k), .bool true]) ∧ Lie w' a' (n - 1) c' (tl f)) ∧ Below w.heap.size w w' :=
  (nTake_far T P r f a n c hT hm h0 hF hR k k0 k1 hn w hL).mono fun e w' ⟨⟨a', c', h1, h2, _⟩, h3⟩ => ⟨⟨a', c', h1, h2⟩, h3⟩
end Go.Proofs.Ytpiohehijkpghab
