/- For every hart, such as may not be among them, and every memory, hart.May and hart.Step answer what chapter 4 says. The variables decode.forms and hart.immediate start as the program's text lays them. -/
import Derived.Test.YtpiohehijkpghaaDoorCards
import Derived.Test.YtpiohehijkpghaaDoorTie
import Derived.Test.YtpiohehijkpghaaDoorHartT
import Derived.Test.YtpiohehijkpghaaDoorHartO
import Derived.Test.YtpiohehijkpghaaDoorHartR
import Derived.WalkKit
import Derived.ProofKit
import Derived.OpenShut
import Derived.Deep.DeepHandedRow
import Derived.Deep.Fields
import Derived.SizedLaws
import Derived.ChangeOld
import Derived.ChangeKeysEq
namespace Go.Proofs.YtpiohehijkpghaaDoor.hartSteps
open Go.ChangeShapes Go.WideShapes Go.ChangeAt Go.RowKit
open Hy
set_option linter.unusedVariables false

theorem own : ownKnob Tryd.prog.godebug = none := by kernel_rfl
theorem laidOut : laidOutB Tryd.prog = true := by kernel_rfl

theorem eqlC (pc next st ca rd val at_ many data : Int) (out : Bool) (told : Int) : ∀ w, (binOp .eql 38 (cv pc next st ca rd val at_ many data out told) (cv pc next st ca rd val at_ many data out told)).run Tryd.prog w = .ok (.bool true) w := by
  intro w
  go_simp
/-- A hart's registers by value. -/
abbrev regs (R : Nat → Int) : Array Value := #[.int .u32 (R 0), .int .u32 (R 1), .int .u32 (R 2), .int .u32 (R 3), .int .u32 (R 4), .int .u32 (R 5), .int .u32 (R 6), .int .u32 (R 7), .int .u32 (R 8), .int .u32 (R 9), .int .u32 (R 10), .int .u32 (R 11), .int .u32 (R 12), .int .u32 (R 13), .int .u32 (R 14), .int .u32 (R 15), .int .u32 (R 16), .int .u32 (R 17), .int .u32 (R 18), .int .u32 (R 19), .int .u32 (R 20), .int .u32 (R 21), .int .u32 (R 22), .int .u32 (R 23), .int .u32 (R 24), .int .u32 (R 25), .int .u32 (R 26), .int .u32 (R 27), .int .u32 (R 28), .int .u32 (R 29), .int .u32 (R 30), .int .u32 (R 31)]
theorem part_reg (R : Nat → Int) (w : World) (i : Nat) (hi : i < 32) : (part 22 (regs R) (i * 1)).run Tryd.prog w = .ok (.int .u32 (R i)) w :=
  match i, hi with
  | 0, _ => by kernel_rfl
  | 1, _ => by kernel_rfl
  | 2, _ => by kernel_rfl
  | 3, _ => by kernel_rfl
  | 4, _ => by kernel_rfl
  | 5, _ => by kernel_rfl
  | 6, _ => by kernel_rfl
  | 7, _ => by kernel_rfl
  | 8, _ => by kernel_rfl
  | 9, _ => by kernel_rfl
  | 10, _ => by kernel_rfl
  | 11, _ => by kernel_rfl
  | 12, _ => by kernel_rfl
  | 13, _ => by kernel_rfl
  | 14, _ => by kernel_rfl
  | 15, _ => by kernel_rfl
  | 16, _ => by kernel_rfl
  | 17, _ => by kernel_rfl
  | 18, _ => by kernel_rfl
  | 19, _ => by kernel_rfl
  | 20, _ => by kernel_rfl
  | 21, _ => by kernel_rfl
  | 22, _ => by kernel_rfl
  | 23, _ => by kernel_rfl
  | 24, _ => by kernel_rfl
  | 25, _ => by kernel_rfl
  | 26, _ => by kernel_rfl
  | 27, _ => by kernel_rfl
  | 28, _ => by kernel_rfl
  | 29, _ => by kernel_rfl
  | 30, _ => by kernel_rfl
  | 31, _ => by kernel_rfl
  | n + 32, h => absurd h (by omega)
theorem items_reg (R : Nat → Int) (w : World) : ∀ is : List Nat, (∀ i ∈ is, i < 32) → (Op.eqItems 9998 22 1 (regs R) (regs R) is).run Tryd.prog w = .ok true w
  | [], _ => by simp [Op.eqItems]
  | i :: is, h => by
    have hp := part_reg R w i (h i (by simp))
    have ih := items_reg R w is (fun j hj => h j (by simp [hj]))
    have he : (Op.equalIn 9998 22 (.int .u32 (R i)) (.int .u32 (R i))).run Tryd.prog w = .ok true w := by
      rw [show (9998 : Nat) = 9997 + 1 from rfl, run_equalIn_int w 9997 22 .u32 .u32 (R i) (R i) Tryd.underlying22]
      simp
    simp only [Op.eqItems, Sem.run_bind, hp, he, Result.andThen_ok]
    simpa using ih
theorem eqlR (R : Nat → Int) : ∀ w, (Op.equalIn 9999 32 (.agg (regs R)) (.agg (regs R))).run Tryd.prog w = .ok true w := by
  intro w
  obtain ⟨i, hi⟩ : ∃ i, Tryd.prog.info? 22 = some i := Option.isSome_iff_exists.1 (by kernel_rfl)
  rw [show (9999 : Nat) = 9998 + 1 from rfl, run_equalIn_array w 9998 (regs R) (regs R) Tryd.underlying32 hi, k22]
  exact items_reg R w _ (fun i hi => by simpa using hi)
set_option maxRecDepth 20000 in
set_option maxHeartbeats 1000000 in
theorem eqlH (R : Nat → Int) (pc st ca : Int) : ∀ w, (binOp .eql 34 (hv R pc st ca) (hv R pc st ca)).run Tryd.prog w = .ok (.bool true) w := by
  intro w
  have h := eqlR R
  go_simp

theorem walk (R : Nat → Int) (pc st ca : Int) (p : Option Addr) (n c : Nat) (f : Nat → Int) (w : World) (hR : ∀ i, i < 32 → 0 ≤ R i ∧ R i ≤ 4294967295) (p0 : 0 ≤ pc) (p1 : pc ≤ 4294967295) (hnc : n ≤ c) (hm : Mem w p n f) (hf : ∀ i, i < n → 0 ≤ f i ∧ f i ≤ 255) (hT : Tab w) (hT2 : Tab2 w) :
    Calls Tryd.prog 6 #[hv R pc st ca, .slice p n c] w fun e w' => e = .returned (.bool true) ∧ Below w.heap.size w w' := by
  have CM := fun W => hMay_any (hcs R pc st ca) (R 0) st ca rfl rfl rfl W
  have CQ := fun W => qMayH_any (hcs R pc st ca) (R 0) st ca rfl rfl rfl W
  cases hb : (R 0 == 0 && (((st == 0 || st == 1) && ca == 0) || (st == 2 && decide (1 ≤ ca) && decide (ca ≤ 6)))) with
  | false =>
    rw [hb] at CM CQ
    exact law_may (hcs R pc st ca) st p n c w rfl rfl CM CQ (fun W => hStep_may (hcs R pc st ca) st p n c W rfl rfl CM)
  | true =>
    rw [hb] at CM CQ
    by_cases hs : st = 0
    · subst hs
      by_cases hn : n ≤ 4096
      · have h0 : R 0 = 0 ∧ ca = 0 := by
          simp at hb
          exact hb
        obtain ⟨r0, rfl⟩ := h0
        have o : Ok w R pc p n c f := ⟨r0, hR, p0, p1, hn, hnc, hm, hf, hT, hT2⟩
        obtain ⟨next, st, ca, ri, rd, v, ai, mi, a, m, data, out, told, dd, P, Q⟩ := both o
        exact law_yes (hcs R pc 0 0) (hcs (upd R rd v) next st ca) (ccs pc next st ca ri v ai mi data out told) p n c (sto f a data m) w rfl ⟨rfl, hcs_ones _ _ _ _⟩ ⟨rfl, ones_ccs _ _ _ _ _ _ _ _ _ _ _⟩ rfl hn (eqlC _ _ _ _ _ _ _ _ _ _ _) (eqlH _ _ _ _) CM CQ P Q
      · exact law_long (hcs R pc 0 ca) 0 p n c w rfl rfl rfl (decide_eq_true (by omega)) CM CQ (fun W => hStep_long (hcs R pc 0 ca) 0 p n c W rfl rfl rfl rfl (decide_eq_true (by omega)) CM)
    · have hz : (st != 0) = true := by simpa using hs
      exact law_runs (hcs R pc st ca) st p n c w rfl rfl hz CM CQ (fun W => hStep_runs (hcs R pc st ca) st p n c W rfl rfl hz CM)
set_option maxRecDepth 100000 in
theorem contract (H : Type) (enc : TypeId × Value → H) (W : World) (base : Nat) (args : Array Value) (ds gs : List (DataW H)) (before : List MemPlace)
    (hval : ∀ (j : Nat) t v, Tryd.f6.params[j]? = some t → args[j]? = some v → Value.okWide Tryd.prog W .any base t v)
    (hW : DataW.Whole enc Tryd.prog Tryd.f6.params.toList Rows.hartStepsSpec.vars false W args.toList ds gs before) (hL : laidMetH Tryd.prog Rows.hartStepsRow.laid W) :
    Calls Tryd.prog 6 args W fun e W' => ∃ v, e = .returned v ∧ Rows.hartStepsSpec.post enc Tryd.prog Tryd.f6 false true false false W args v W' := by
  have hW' := hW
  obtain ⟨p, q, hA0, hV, rfl, hfz, hnd⟩ := hW
  have hA : DataW.TrodAll enc Tryd.prog W 0 (fun _ => true) true Tryd.f6.params.toList args.toList ds p := hA0
  rw [Tryd.params6] at hA hval
  obtain ⟨v0, vs0, d0, ds0, p0, q0, hargs, rfl, rfl, h0, r0⟩ := trodAll_cons hA
  obtain ⟨v1, vs1, d1, ds1, p1, q1, rfl, rfl, rfl, h1, r1⟩ := trodAll_cons r0
  obtain ⟨rfl, rfl, rfl⟩ := trodAll_nil r1
  obtain rfl : args = #[v0, v1] := by cases args; simp_all
  obtain ⟨rfl, rfl⟩ := trodVars_none hV
  obtain ⟨cs, rfl, hsz⟩ := okWide_struct Tryd.underlying34 (hval 0 34 v0 rfl rfl)
  have hsz : cs.size = 35 := hsz.trans (by kernel_rfl)
  obtain ⟨a0, len, cap, rfl⟩ := okWide_slice Tryd.underlying35 (hval 1 35 v1 rfl rfl)
  have k0 := h0
  have k1 := h1
  have lt0 : ∀ x ∈ p0, x.block < W.heap.size := by obtain ⟨m, hm⟩ := k0; exact DataW.trod_lt m _ _ _ hm
  have lt1 : ∀ x ∈ p1, x.block < W.heap.size := by obtain ⟨m, hm⟩ := k1; exact DataW.trod_lt m _ _ _ hm
  obtain ⟨R, pc, st, ca, hcs', hR, pc0, pc1⟩ : ∃ (R : Nat → Int) (pc st ca : Int), cs = hcs R pc st ca ∧ (∀ i, i < 32 → 0 ≤ R i ∧ R i ≤ 4294967295) ∧ 0 ≤ pc ∧ pc ≤ 4294967295 := by
    obtain ⟨fuel, hf⟩ := h0
    exact hart_cells hsz hf
  obtain ⟨f, hnc, hm, hrng⟩ : ∃ f : Nat → Int, len ≤ cap ∧ Mem W a0 len f ∧ (∀ i, i < len → 0 ≤ f i ∧ f i ≤ 255) := by
    obtain ⟨fuel, hf⟩ := h1
    rcases open_ints Tryd.underlying35 Tryd.underlying5 (by kernel_rfl) hf with ⟨hcs, _⟩ | ⟨x, l, c, zs, hcs, _, hl, hm, hz, hd, hcell, hwz⟩
    · simp [Value.cells] at hcs
      obtain ⟨rfl, rfl, rfl⟩ := hcs
      exact ⟨fun _ => 0, Nat.le_refl _, fun h => absurd h (by omega), fun i h => absurd h (by omega)⟩
    · simp [Value.cells] at hcs
      obtain ⟨rfl, rfl, rfl⟩ := hcs
      simp only [if_true] at hz
      have hin : Lib.BytesIn W (some x) len (zs.take len) := Lib.BytesIn.of_cells (fun i hi => by rw [hcell i (by omega)]; simp [List.getD, hi])
      refine ⟨fun i => (zs.take len).getD i 0, by omega, fun h0 => ?_, fun i hi => ?_⟩
      · obtain ⟨g, o, hp, hc⟩ := hin.at (by omega)
        exact ⟨g, o, hp, hc⟩
      · have hy : (zs.take len).getD i 0 ∈ zs.take len := by
          have hlt : i < (zs.take len).length := by simp; omega
          rw [List.getD_eq_getElem?_getD, List.getElem?_eq_getElem hlt]
          exact List.getElem_mem hlt
        have hw := hwz _ (List.mem_of_mem_take hy)
        have e1 : IntKind.u8.min = 0 := rfl
        have e2 : IntKind.u8.max = 255 := rfl
        simp only [Lit.wf, Bool.and_eq_true, decide_eq_true_eq] at hw
        show 0 ≤ (zs.take len).getD i 0 ∧ (zs.take len).getD i 0 ≤ 255
        omega
  obtain ⟨hT, hT2⟩ := tabs_of_laid hL
  clear hA0
  subst hcs'
  refine (walk R pc st ca a0 len cap f W hR pc0 pc1 hnc hm hrng hT hT2).mono fun e W' ⟨he, bel⟩ => ?_
  subst he
  exact ⟨_, rfl, _, _, _, [], _, [], hW', trodAll_mk1 (shut_bool Tryd.underlying4 _), (trodAll_cons_mk (Below.trod laidOut (by kernel_rfl) (of_decide_eq_true (by kernel_rfl)) k0 bel lt0) (trodAll_cons_mk (Below.trod laidOut (by kernel_rfl) (of_decide_eq_true (by kernel_rfl)) k1 bel lt1) trodAll_mk0)), rfl, bel.frame _, fun h => by cases h⟩

theorem laid_met (os : Os) : laidMet Tryd.prog Rows.hartStepsRow.laid (({ World.holding Tryd.prog os ⟨#[], #[], []⟩ with heap := ((World.holding Tryd.prog os ⟨#[], #[], []⟩).heap.modify 0 fun | .cells _ t frozen => .cells (ftab.map fun z => Value.int .u32 z).toArray t frozen | o => o).modify 1 fun | .cells _ t frozen => .cells (itab.map fun z => Value.int .i64 z).toArray t frozen | o => o } : World).forCall (fun _ _ => 0) ⟨#[], #[hv (fun _ => 0) 0 0 0, .slice none 0 0], []⟩).memory :=
  laidMet_of_run' 8 (by kernel_rfl) (by kernel_rfl)
theorem reads (os : Os) {H : Type} (enc : TypeId × Value → H) : ∃ places, DataW.whole enc Tryd.prog (({ World.holding Tryd.prog os ⟨#[], #[], []⟩ with heap := ((World.holding Tryd.prog os ⟨#[], #[], []⟩).heap.modify 0 fun | .cells _ t frozen => .cells (ftab.map fun z => Value.int .u32 z).toArray t frozen | o => o).modify 1 fun | .cells _ t frozen => .cells (itab.map fun z => Value.int .i64 z).toArray t frozen | o => o } : World).forCall (fun _ _ => 0) ⟨#[], #[hv (fun _ => 0) 0 0 0, .slice none 0 0], []⟩).memory Tryd.f6.params.toList Rows.hartStepsSpec.vars false (#[hv (fun _ => 0) 0 0 0, .slice none 0 0] : Array Value).toList 8 = some ([.agg [.agg [.lit (.int .u32 0), .lit (.int .u32 0), .lit (.int .u32 0), .lit (.int .u32 0), .lit (.int .u32 0), .lit (.int .u32 0), .lit (.int .u32 0), .lit (.int .u32 0), .lit (.int .u32 0), .lit (.int .u32 0), .lit (.int .u32 0), .lit (.int .u32 0), .lit (.int .u32 0), .lit (.int .u32 0), .lit (.int .u32 0), .lit (.int .u32 0), .lit (.int .u32 0), .lit (.int .u32 0), .lit (.int .u32 0), .lit (.int .u32 0), .lit (.int .u32 0), .lit (.int .u32 0), .lit (.int .u32 0), .lit (.int .u32 0), .lit (.int .u32 0), .lit (.int .u32 0), .lit (.int .u32 0), .lit (.int .u32 0), .lit (.int .u32 0), .lit (.int .u32 0), .lit (.int .u32 0), .lit (.int .u32 0)], .lit (.int .u32 0), .lit (.int .i64 0), .lit (.int .i64 0)], .nil], [], places) :=
  ⟨[], by kernel_rfl⟩

set_option maxRecDepth 100000 in
theorem lifted (os : Os) (started : os.Started) (H : Type) (enc : TypeId × Value → H) (F : Stop.Interp) :
    ReturnsInHanded {} Tryd.checked os 6 .any ((OpenSpec.ofChange Rows.hartStepsSpec).preRow enc Tryd.prog Tryd.f6 Rows.hartStepsRow.domain false Rows.hartStepsRow.laid) (((OpenSpec.ofChange Rows.hartStepsSpec).at F).post enc Tryd.prog Tryd.f6 false true false false) := by
  obtain ⟨places, hx⟩ := reads os enc
  refine returnsInHanded_of_row (C := Tryd.checked) (s := OpenSpec.ofChange Rows.hartStepsSpec) own started (by kernel_rfl) Tryd.func6
    (witness_row_at (enc := enc) (C := Tryd.checked) false ({ World.holding Tryd.prog os ⟨#[], #[], []⟩ with heap := ((World.holding Tryd.prog os ⟨#[], #[], []⟩).heap.modify 0 fun | .cells _ t frozen => .cells (ftab.map fun z => Value.int .u32 z).toArray t frozen | o => o).modify 1 fun | .cells _ t frozen => .cells (itab.map fun z => Value.int .i64 z).toArray t frozen | o => o } : World) #[hv (fun _ => 0) 0 0 0, .slice none 0 0] rfl (by kernel_rfl) (by kernel_rfl) (by kernel_rfl)
      (OpenSpec.preRow_of_cond 8 hx (by kernel_rfl) (fun k hk => by cases hk) (by kernel_rfl) (laid_met os))) ?_
  intro W base args ds gs before hval hW _ _ _ hL _ _
  exact contract H enc W base args ds gs before hval hW hL

theorem said : Rows.HartStepsSaid :=
  OpenClaim.holds_of_cond 6 Tryd.f6 rfl rfl rfl rfl rfl rfl rfl ⟨rfl, rfl, rfl, rfl, rfl⟩ rfl rfl rfl rfl rfl (by kernel_rfl) Tryd.func6 (by kernel_rfl)
    (of_decide_eq_true (by kernel_rfl)) (by unfold Func.isWrapper; first | (rw [if_pos (by decide +kernel)]; kernel_rfl) | (rw [if_neg (by decide +kernel)]; exact ⟨rfl, rfl⟩))
    (fun os started H enc _ F => by rw [OpenClaim.pre_eq_preRow]; exact lifted os started H enc F)

theorem plain (f : FuncId) (fn : Func) (hf : Tryd.pinned.checked.prog.funcNamed "humpyard/humpyardlaw.HartSteps" = some f) (hfn : Tryd.pinned.checked.prog.funcs[f]? = some fn) :
    false = Tryd.pinned.checked.prog.looks [] ∧ ∀ (j : Nat) t, fn.params[j]? = some t → Tryd.pinned.checked.prog.wantsStandIn t = false := by
  obtain rfl : f = 6 := Option.some.inj ((show Tryd.prog.funcNamed "humpyard/humpyardlaw.HartSteps" = some 6 by kernel_rfl).symm.trans hf) |>.symm
  obtain rfl : fn = Tryd.f6 := (Option.some.inj (Tryd.func6.symm.trans hfn)).symm
  refine ⟨by kernel_rfl, fun j t ht => ?_⟩
  rw [Tryd.params6] at ht
  have hm := Array.mem_of_getElem? ht
  simp at hm
  rcases hm with rfl | rfl
  · exact (show Tryd.prog.wantsStandIn 34 = false by kernel_rfl)
  · exact (show Tryd.prog.wantsStandIn 35 = false by kernel_rfl)

theorem card : Rows.HartStepsCardSaid :=
  Claim7.holds_tied_plain_at .later [] _ _ _ _ said (fun _ h => by cases h) (by kernel_rfl) (fun _ h => by cases h) hartSteps_row_tie rfl ⟨rfl, rfl⟩ (by kernel_rfl) rfl plain (by kernel_rfl)
end Go.Proofs.YtpiohehijkpghaaDoor.hartSteps
namespace Go.Proofs.YtpiohehijkpghaaDoor
theorem hartSteps_holds : Rows.HartStepsCardSaid := hartSteps.card
end Go.Proofs.YtpiohehijkpghaaDoor
