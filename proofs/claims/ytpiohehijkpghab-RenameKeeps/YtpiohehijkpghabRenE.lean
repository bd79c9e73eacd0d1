/- Whether there may be such a map: the program. -/
import Derived.Test.YtpiohehijkpghabRenD
namespace Go.Proofs.Ytpiohehijkpghab
open Go.RowKit Go.Maps
open Hy
set_option linter.unusedVariables false
/-- A map's registers are numbers of the machine. -/
abbrev Rg (r : Nat → Int) : Prop := ∀ k, k < 32 → (Lit.int .i64 (r k)).wf = true
theorem wpList_load_row_g {P : Program} {ops : Array Oper} {rest : List Oper} {o : Oper} {a : Act} {w : World} {Q : Exit → Act → World → Prop} (hw : Region.wanted o (yielded ops a.tmps) = true) (ty : TypeId) (x : Operand) (ho : o.op = .load ty x)
    (g : Nat) (hx : a.eval x = .pointer (some ⟨g, 0, none⟩)) (t : TypeId) (cs : Array Value) (fr : Nat × Nat) (d : TypeDesc) (hg : w.heap[g]? = some (.cells cs t fr))
    (hu : P.underlying ty = some d) (hd : (match d with | .struct _ | .array _ _ => true | _ => false) = true) (hi : (P.info? ty).map (·.size) = some cs.size)
    (h : wpList P ops Q rest (a.put o.dst (.agg cs)) w) : wpList P ops Q (o :: rest) a w := by
  unfold wpList
  rw [if_pos hw]
  exact Or.inl (wp_load_row ty x ho g hx t cs fr d hg hu hd hi h)
theorem wpList_lookup_g {H : Type} {P : Program} (w : World) {ops : Array Oper} {rest : List Oper} {o : Oper} {a : Act} {Q : Exit → Act → World → Prop}
    (hg : Region.wanted o (yielded ops a.tmps) = true) (m x : Operand) (t : TypeId) (hop : o.op = Op.lookup t m x false)
    (k e : TypeId) (q : IntKind) (K : Keyed P k) (ht : P.underlying t = some (.map k e)) (he : P.underlying e = some (.int q)) (hz : (zeroValue e).run P w = .ok (.int q 0) w) (b n : Nat) (D : DataW H)
    (hm : a.eval m = .map (some b)) (hown : w.ownsMap P k (plainElem P e) b n D) (key : Value) (kl : Lit) (hx : a.eval x = key) (hkey : keyOf P k key = some kl)
    (hK : ∀ c : Int, D.atKey kl (.lit (.int q 0)) = .lit (.int q c) → (Lit.int q c).wf = true → wpList P ops Q rest (a.put o.dst (.int q c)) w) :
    wpList P ops Q (o :: rest) a w := by
  unfold wpList
  rw [if_pos hg]
  left
  obtain ⟨c, hrun, hat, hwc⟩ := hown.lookup_int K ht he hz hkey
  unfold Oper.wp
  simp [execOp, hop, hm, hx, hrun, Result.andThen]
  exact hK c hat hwc
theorem size_map : (Try.prog.info? 42).map (·.size) = some 34 := by kernel_rfl
theorem map_info {T : Array Value} {P : Int} {r : Nat → Int} {v : Value} (h : T = mcs P r v) : (Try.prog.info? 42).map (·.size) = some T.size := by rw [size_map, h]; rfl
theorem heap_alloc_new (w : World) (o : Obj) : (w.alloc o).heap[w.heap.size]? = some o := by
  show (w.heap.push o)[w.heap.size]? = some o
  simp
set_option maxRecDepth 20000 in
set_option maxHeartbeats 1000000 in
theorem nMay_any (T : Array Value) (P : Int) (r f : Nat → Int) (a : Option Addr) (n c : Nat) (b : Bool) (hT : Hid (T = mcs P r (.slice a n c))) (hb : Hid (b = true ↔ MayBe P n r f))
    (h0 : T[0]? = some (.int .i64 P)) (hF : T[33]? = some (.slice a n c)) (hR : Hid (Rg r)) (hn : n ≤ 140737488355328) (w : World) (hL : Hid (Lie w a n c f)) :
    Calls Try.prog 24 #[.agg T] w fun e w' => e = .returned (.bool b) ∧ Below w.heap.size w w' := by
  have C1 := nenough_any P
  by_cases hp : 33 ≤ P ∧ P ≤ 96
  · rw [decide_eq_true hp] at C1
    by_cases hm : (32 + n : Int) ≤ P
    · have C2 := fun w => nused_any T P r f a n c hT hF hR (by omega) w
      have HI : Hid ((Try.prog.info? 42).map (·.size) = some T.size) := map_info hT.out
      go_enter Try.func24, Try.ntmps24
      go_upto_region 1 with fail
      generalize hW : w.alloc (Obj.cells T 42) = W
      have HR0 : Hid (W.heap[w.heap.size]? = some (.cells T 42 (0, 0))) := by rw [← hW]; show _ = _; exact heap_alloc_new _ _
      have HB0 : Hid (Below w.heap.size w W) := by rw [← hW]; exact (Below.refl _ _).alloc (Nat.le_refl _) _
      have c0 : W.cell? ⟨w.heap.size, 0, none⟩ = some (.int .i64 P) := (cell_of_row W w.heap.size _ _ _ _ HR0.out).trans h0
      have c33 : W.cell? ⟨w.heap.size, 33, none⟩ = some (.slice a n c) := (cell_of_row W w.heap.size _ _ _ _ HR0.out).trans hF
      clear hW
      go_wp2_with fail
      refine (C1 _).mono ?_
      rintro e w' ⟨rfl, rfl⟩
      go_wp2_with (refine wpList_load_row rfl 42 _ rfl _ rfl 42 _ (0, 0) _ HR0.out Try.underlying42 rfl HI.out ?_)
      refine (C2 _ (hL.out.below (Nat.le_refl _) HB0.out)).mono ?_
      rintro e W1 ⟨B, D, rfl, hown, hcn, hk⟩
      have c0' : W1.cell? ⟨w.heap.size, 0, none⟩ = some (.int .i64 P) := (hk.cell (p := ⟨w.heap.size, 0, none⟩) (heap_lt HR0.out)).trans c0
      have HB1 : Hid (Below w.heap.size w W1) := HB0.out.trans (hk.mono HB0.out.size)
      clear hk HR0 HB0 c0 c33
      go_wp2_with fail
      have hfin : (32 + (n : Int) - (sm (o1 (jn r f) (32 + n)) P.toNat : Nat) = 0) ↔ b = true := by
        rw [hb.out]
        constructor
        · intro h
          exact ⟨hp.1, hp.2, (all_prog _ _ _).1 ⟨by omega, by omega⟩⟩
        · intro h
          have := ((all_prog _ _ _).2 h.all).2
          omega
      go_loopw [3, 24] (fun v i wr => ∃ k : Nat, ∃ m : Int, k ≤ P.toNat ∧ i = .int .i64 k ∧ v = .int .i64 m ∧ m = 32 + (n : Int) - (sm (o1 (jn r f) (32 + n)) k : Nat) ∧ wr = W1)
        (fun _ i _ => P.toNat - (intOf i).toNat)
      case atStart => exact ⟨0, _, by omega, rfl, rfl, by simp [sm], rfl⟩
      case round =>
        obtain ⟨k, m, hk, rfl, rfl, hm, rfl⟩ := hrel
        have hs : sm (o1 (jn r f) (32 + n)) k ≤ k := sm_ones k (fun i hi => (show o1 (jn r f) (32 + n) i ≤ 1 by unfold o1; split <;> omega))
        have m0 : -100 ≤ m := by omega
        have m1 : m ≤ 1000 := by omega
        by_cases hlt : k < P.toNat
        · have hlt' : (k : Int) < P := by omega
          have hkey : keyOf Try.prog 3 (.int .i64 (k : Int)) = some (.int .i64 (k : Int)) := keyOf_int_mk Try.underlying3 (WalkArith.wf_i64 (by omega))
          have hstep : sm (o1 (jn r f) (32 + n)) (k + 1) = sm (o1 (jn r f) (32 + n)) k + o1 (jn r f) (32 + n) k := rfl
          go_wp2_with (at_lookup; refine wpList_lookup_own_int _ rfl _ _ 85 rfl 3 3 .i64 law3 Try.underlying85 Try.underlying3 (zero3 _) B (32 + n) _ rfl hown _ _ rfl hkey ?_; intro q hat hwc)
          all_goals have hq := hcn.num hat
          all_goals have ho : (cn (jn r f) (k : Int) (32 + n) = 1 ∧ o1 (jn r f) (32 + n) k = 1) ∨ (cn (jn r f) (k : Int) (32 + n) ≠ 1 ∧ o1 (jn r f) (32 + n) k = 0) := by unfold o1; split <;> simp_all
          all_goals refine ⟨⟨k + 1, _, by omega, by go_num, rfl, ?_, trivial⟩, by simp [intOf]; omega⟩
          all_goals rw [hstep]
          all_goals first | (have h1 : q = 1 := by simpa using (by assumption : (q == 1) = true)) | (have h1 : q ≠ 1 := by simpa using (by assumption : (q == 1) = false))
          all_goals omega
        · have : k = P.toNat := by omega
          subst this
          have hlt' : ¬ (((P.toNat : Nat) : Int) < P) := by omega
          go_wp2
          go_ret
          refine ⟨congrArg (fun x => Ending.returned (Value.bool x)) (?_ : _ = b), HB1.out⟩
          rw [Bool.eq_iff_iff, ← hfin]
          simp
    · have hbf : b = false := by
        cases b
        · rfl
        · have := (hb.out.1 rfl).few; omega
      subst hbf
      go_enter Try.func24, Try.ntmps24
      go_wp2_with fail
      refine (C1 _).mono ?_
      rintro e w' ⟨rfl, rfl⟩
      go_wp2_with fail
      go_ret
      exact ⟨rfl, by first | exact Below.refl _ _ | exact (Below.refl _ _).alloc (Nat.le_refl _) _⟩
  · have hbf : b = false := by
      cases b
      · rfl
      · have := hb.out.1 rfl
        exact absurd ⟨this.low, this.high⟩ hp
    subst hbf
    rw [decide_eq_false hp] at C1
    go_enter Try.func24, Try.ntmps24
    go_wp2_with fail
    refine (C1 _).mono ?_
    rintro e w' ⟨rfl, rfl⟩
    go_wp2_with fail
    go_ret
    exact ⟨rfl, by first | exact Below.refl _ _ | exact (Below.refl _ _).alloc (Nat.le_refl _) _⟩
end Go.Proofs.Ytpiohehijkpghab
