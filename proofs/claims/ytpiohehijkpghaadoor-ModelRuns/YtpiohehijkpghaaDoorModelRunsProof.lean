/- For every hart and memory, such as may not be among them, and any steps, model.Run does one instruction after the other as chapter 5 says, or tells what is wrong. The variables decode.forms and hart.immediate start as the program's text lays them. -/
import Derived.Test.YtpiohehijkpghaaDoorCards
import Derived.Test.YtpiohehijkpghaaDoorTie
import Derived.Test.YtpiohehijkpghaaDoorHartT
import Derived.Test.YtpiohehijkpghaaDoorModH
import Derived.WalkKit
import Derived.ProofKit
import Derived.OpenShut
import Derived.Deep.DeepHandedRow
import Derived.Deep.Fields
import Derived.SizedLaws
import Derived.ChangeOld
import Derived.ChangeKeysEq
namespace Go.Proofs.YtpiohehijkpghaaDoor.modelRuns
open Go.ChangeShapes Go.WideShapes Go.ChangeAt Go.RowKit
open Hy
set_option linter.unusedVariables false

theorem own : ownKnob Tryd.prog.godebug = none := by kernel_rfl
theorem laidOut : laidOutB Tryd.prog = true := by kernel_rfl

theorem walk (R : Nat → Int) (pc st ca : Int) (p : Option Addr) (n c : Nat) (f : Nat → Int) (K : Int) (w : World) (hR : ∀ i, i < 32 → 0 ≤ R i ∧ R i ≤ 4294967295) (p0 : 0 ≤ pc) (p1 : pc ≤ 4294967295) (hnc : n ≤ c) (hc : p = none → c = 0) (hm : Mem w p n f) (hf : ∀ i, i < n → 0 ≤ f i ∧ f i ≤ 255) (hT : Tab w) (hT2 : Tab2 w) :
    Calls Tryd.prog 8 #[hv R pc st ca, .slice p n c, .int .i64 K] w fun e w' => e = .returned (.bool true) ∧ Below w.heap.size w w' := by
  have CM := fun W => hMay_any (hcs R pc st ca) (R 0) st ca rfl rfl rfl W
  have CQ := fun W => qMayH_any (hcs R pc st ca) (R 0) st ca rfl rfl rfl W
  cases hb : (R 0 == 0 && (((st == 0 || st == 1) && ca == 0) || (st == 2 && decide (1 ≤ ca) && decide (ca ≤ 6)))) with
  | false =>
    rw [hb] at CM CQ
    exact runs_err (hcs R pc st ca) p n c K 2 w rfl rfl (fun W => oRun_err (hcs R pc st ca) p n c K 2 rfl rfl W (fun W => owrong_form (hcs R pc st ca) p n c K rfl CM W)) (fun W => vWrong_form (hcs R pc st ca) p n c K rfl CQ W)
  | true =>
    rw [hb] at CM CQ
    by_cases hn : n ≤ 4096
    · have l1 : decide ((4096 : Int) < (n : Int)) = false := decide_eq_false (by omega)
      by_cases k0 : K < 0
      · have d0 := decide_eq_true k0
        exact runs_err (hcs R pc st ca) p n c K 3 w rfl rfl (fun W => oRun_err (hcs R pc st ca) p n c K 3 rfl rfl W (fun W => owrong_neg (hcs R pc st ca) p n c K rfl l1 d0 CM W)) (fun W => vWrong_neg (hcs R pc st ca) p n c K rfl l1 d0 CQ W)
      · have d0 := decide_eq_false k0
        by_cases k1 : 2000 < K
        · have d1 := decide_eq_true k1
          exact runs_err (hcs R pc st ca) p n c K 3 w rfl rfl (fun W => oRun_err (hcs R pc st ca) p n c K 3 rfl rfl W (fun W => owrong_much (hcs R pc st ca) p n c K rfl l1 d0 d1 CM W)) (fun W => vWrong_much (hcs R pc st ca) p n c K rfl l1 d0 d1 CQ W)
        · have d1 := decide_eq_false k1
          obtain ⟨k, rfl⟩ := Int.eq_ofNat_of_zero_le (show 0 ≤ K by omega)
          have fits : Fits n ⟨R, pc, st, ca, f⟩ := by
            simp at hb
            refine ⟨⟨hb.1, hR, p0, p1, hn, hf⟩, ?_⟩
            show (st = 0 ∧ ca = 0) ∨ (st = 1 ∧ ca = 0) ∨ (st = 2 ∧ 1 ≤ ca ∧ ca ≤ 6)
            omega
          obtain ⟨G, hG⟩ := goes n
          obtain ⟨m, hs⟩ := Stops.ex (fun i => (seq G ⟨R, pc, st, ca, f⟩ i).st) k
          refine runs_ok (hcs R pc st ca) (hrt (seq G ⟨R, pc, st, ca, f⟩ m)) (comsOf G ⟨R, pc, st, ca, f⟩ m) (seq G ⟨R, pc, st, ca, f⟩ m).f p n c m k w rfl ⟨hrt_size _, hrt_ones _⟩ (eq.eqlH _ _ _ _) (fun W hW => ?_) (fun W => vWrong_ok (hcs R pc st ca) p n c k rfl l1 d0 d1 CQ W) (fun W hW => ?_) (fun W b1 b2 p1 c1 p2 c2 h1 h2 => sameQ G ⟨R, pc, st, ca, f⟩ (by have := hs.le; omega) W h1 h2)
          · exact (runP hG fits (by omega) hs W p c (hm.below hW) (hT.below hW hT.size) (hT2.below hW hT2.size)).mono fun e w' ⟨⟨lp, lc, p', cap, he, ho, _, hO⟩, hb⟩ => ⟨⟨lp, lc, p', cap, he, ho, hO.mem⟩, hb⟩
          · exact (playQ hG fits (by omega) hs W p c hnc (hm.below hW) (hT.below hW hT.size) (hT2.below hW hT2.size)).mono fun e w' ⟨⟨lp, lc, p', cap, he, ho, _, hO⟩, hb⟩ => ⟨⟨lp, lc, p', cap, he, ho, hO⟩, hb⟩
    · have l1 : decide ((4096 : Int) < (n : Int)) = true := decide_eq_true (by omega)
      exact runs_err (hcs R pc st ca) p n c K 2 w rfl rfl (fun W => oRun_err (hcs R pc st ca) p n c K 2 rfl rfl W (fun W => owrong_long (hcs R pc st ca) p n c K rfl l1 CM W)) (fun W => vWrong_long (hcs R pc st ca) p n c K rfl l1 CQ W)

set_option maxRecDepth 100000 in
theorem contract (H : Type) (enc : TypeId × Value → H) (W : World) (base : Nat) (args : Array Value) (ds gs : List (DataW H)) (before : List MemPlace)
    (hval : ∀ (j : Nat) t v, Tryd.f8.params[j]? = some t → args[j]? = some v → Value.okWide Tryd.prog W .any base t v)
    (hW : DataW.Whole enc Tryd.prog Tryd.f8.params.toList Rows.modelRunsSpec.vars false W args.toList ds gs before) (hL : laidMetH Tryd.prog Rows.modelRunsRow.laid W) :
    Calls Tryd.prog 8 args W fun e W' => ∃ v, e = .returned v ∧ Rows.modelRunsSpec.post enc Tryd.prog Tryd.f8 false true false false W args v W' := by
  have hW' := hW
  obtain ⟨p, q, hA0, hV, rfl, hfz, hnd⟩ := hW
  have hA : DataW.TrodAll enc Tryd.prog W 0 (fun _ => true) true Tryd.f8.params.toList args.toList ds p := hA0
  rw [Tryd.params8] at hA hval
  obtain ⟨v0, vs0, d0, ds0, p0, q0, hargs, rfl, rfl, h0, r0⟩ := trodAll_cons hA
  obtain ⟨v1, vs1, d1, ds1, p1, q1, rfl, rfl, rfl, h1, r1⟩ := trodAll_cons r0
  obtain ⟨v2, vs2, d2, ds2, p2, q2, rfl, rfl, rfl, h2, r2⟩ := trodAll_cons r1
  obtain ⟨rfl, rfl, rfl⟩ := trodAll_nil r2
  obtain rfl : args = #[v0, v1, v2] := by cases args; simp_all
  obtain ⟨rfl, rfl⟩ := trodVars_none hV
  obtain ⟨cs, rfl, hsz⟩ := okWide_struct Tryd.underlying34 (hval 0 34 v0 rfl rfl)
  have hsz : cs.size = 35 := hsz.trans (by kernel_rfl)
  obtain ⟨a0, len, cap, rfl⟩ := okWide_slice Tryd.underlying35 (hval 1 35 v1 rfl rfl)
  obtain ⟨a2, rfl, rfl, rfl, w2⟩ := open_int Tryd.underlying3 (hval 2 3 v2 rfl rfl) h2
  have k0 := h0
  have k1 := h1
  have lt0 : ∀ x ∈ p0, x.block < W.heap.size := by obtain ⟨m, hm⟩ := k0; exact DataW.trod_lt m _ _ _ hm
  have lt1 : ∀ x ∈ p1, x.block < W.heap.size := by obtain ⟨m, hm⟩ := k1; exact DataW.trod_lt m _ _ _ hm
  obtain ⟨R, pc, st, ca, hcs', hR, pc0, pc1⟩ : ∃ (R : Nat → Int) (pc st ca : Int), cs = hcs R pc st ca ∧ (∀ i, i < 32 → 0 ≤ R i ∧ R i ≤ 4294967295) ∧ 0 ≤ pc ∧ pc ≤ 4294967295 := by
    obtain ⟨fuel, hf⟩ := h0
    exact hart_cells hsz hf
  obtain ⟨f, hnc, hc, hm, hrng⟩ : ∃ f : Nat → Int, len ≤ cap ∧ (a0 = none → cap = 0) ∧ Mem W a0 len f ∧ (∀ i, i < len → 0 ≤ f i ∧ f i ≤ 255) := by
    obtain ⟨fuel, hf⟩ := h1
    rcases open_ints Tryd.underlying35 Tryd.underlying5 (by kernel_rfl) hf with ⟨hcs, _⟩ | ⟨x, l, c, zs, hcs, _, hl, hm, hz, hd, hcell, hwz⟩
    · simp [Value.cells] at hcs
      obtain ⟨rfl, rfl, rfl⟩ := hcs
      exact ⟨fun _ => 0, Nat.le_refl _, fun _ => rfl, fun h => absurd h (by omega), fun i h => absurd h (by omega)⟩
    · simp [Value.cells] at hcs
      obtain ⟨rfl, rfl, rfl⟩ := hcs
      simp only [if_true] at hz
      have hin : Lib.BytesIn W (some x) len (zs.take len) := Lib.BytesIn.of_cells (fun i hi => by rw [hcell i (by omega)]; simp [List.getD, hi])
      refine ⟨fun i => (zs.take len).getD i 0, by omega, (fun h => nomatch h), fun h0 => ?_, fun i hi => ?_⟩
      · obtain ⟨g, o, hp, hc⟩ := hin.at (by omega)
        exact ⟨g, o, hp, hc⟩
      · have hy : (zs.take len).getD i 0 ∈ zs.take len := by
          have hlt : i < (zs.take len).length := by simp; omega
          rw [List.getD_eq_getElem?_getD, List.getElem?_eq_getElem hlt]
          exact List.getElem_mem hlt
        have hw := hwz _ (List.mem_of_mem_take hy)
        have e1 : IntKind.u8.min = 0 := rfl
        have e2 : IntKind.u8.max = 255 := rfl
        simp only [Lit.wf, Bool.and_eq_true, decide_eq_true_eq] at hw
        show 0 ≤ (zs.take len).getD i 0 ∧ (zs.take len).getD i 0 ≤ 255
        omega
  obtain ⟨hT, hT2⟩ := tabs_of_laid hL
  clear hA0
  subst hcs'
  refine (walk R pc st ca a0 len cap f a2 W hR pc0 pc1 hnc hc hm hrng hT hT2).mono fun e W' ⟨he, bel⟩ => ?_
  subst he
  exact ⟨_, rfl, _, _, _, [], _, [], hW', trodAll_mk1 (shut_bool Tryd.underlying4 _), (trodAll_cons_mk (Below.trod laidOut (by kernel_rfl) (of_decide_eq_true (by kernel_rfl)) k0 bel lt0) (trodAll_cons_mk (Below.trod laidOut (by kernel_rfl) (of_decide_eq_true (by kernel_rfl)) k1 bel lt1) (trodAll_cons_mk (shut_int Tryd.underlying3 w2) trodAll_mk0))), rfl, bel.frame _, fun h => by cases h⟩

theorem laid_met (os : Os) : laidMet Tryd.prog Rows.modelRunsRow.laid (({ World.holding Tryd.prog os ⟨#[], #[], []⟩ with heap := ((World.holding Tryd.prog os ⟨#[], #[], []⟩).heap.modify 0 fun | .cells _ t frozen => .cells (ftab.map fun z => Value.int .u32 z).toArray t frozen | o => o).modify 1 fun | .cells _ t frozen => .cells (itab.map fun z => Value.int .i64 z).toArray t frozen | o => o } : World).forCall (fun _ _ => 0) ⟨#[], #[hv (fun _ => 0) 0 0 0, .slice none 0 0, .int .i64 0], []⟩).memory :=
  laidMet_of_run' 8 (by kernel_rfl) (by kernel_rfl)
theorem reads (os : Os) {H : Type} (enc : TypeId × Value → H) : ∃ places, DataW.whole enc Tryd.prog (({ World.holding Tryd.prog os ⟨#[], #[], []⟩ with heap := ((World.holding Tryd.prog os ⟨#[], #[], []⟩).heap.modify 0 fun | .cells _ t frozen => .cells (ftab.map fun z => Value.int .u32 z).toArray t frozen | o => o).modify 1 fun | .cells _ t frozen => .cells (itab.map fun z => Value.int .i64 z).toArray t frozen | o => o } : World).forCall (fun _ _ => 0) ⟨#[], #[hv (fun _ => 0) 0 0 0, .slice none 0 0, .int .i64 0], []⟩).memory Tryd.f8.params.toList Rows.modelRunsSpec.vars false (#[hv (fun _ => 0) 0 0 0, .slice none 0 0, .int .i64 0] : Array Value).toList 8 = some ([.agg [.agg [.lit (.int .u32 0), .lit (.int .u32 0), .lit (.int .u32 0), .lit (.int .u32 0), .lit (.int .u32 0), .lit (.int .u32 0), .lit (.int .u32 0), .lit (.int .u32 0), .lit (.int .u32 0), .lit (.int .u32 0), .lit (.int .u32 0), .lit (.int .u32 0), .lit (.int .u32 0), .lit (.int .u32 0), .lit (.int .u32 0), .lit (.int .u32 0), .lit (.int .u32 0), .lit (.int .u32 0), .lit (.int .u32 0), .lit (.int .u32 0), .lit (.int .u32 0), .lit (.int .u32 0), .lit (.int .u32 0), .lit (.int .u32 0), .lit (.int .u32 0), .lit (.int .u32 0), .lit (.int .u32 0), .lit (.int .u32 0), .lit (.int .u32 0), .lit (.int .u32 0), .lit (.int .u32 0), .lit (.int .u32 0)], .lit (.int .u32 0), .lit (.int .i64 0), .lit (.int .i64 0)], .nil, .lit (.int .i64 0)], [], places) :=
  ⟨[], by kernel_rfl⟩

set_option maxRecDepth 100000 in
theorem lifted (os : Os) (started : os.Started) (H : Type) (enc : TypeId × Value → H) (F : Stop.Interp) :
    ReturnsInHanded {} Tryd.checked os 8 .any ((OpenSpec.ofChange Rows.modelRunsSpec).preRow enc Tryd.prog Tryd.f8 Rows.modelRunsRow.domain false Rows.modelRunsRow.laid) (((OpenSpec.ofChange Rows.modelRunsSpec).at F).post enc Tryd.prog Tryd.f8 false true false false) := by
  obtain ⟨places, hx⟩ := reads os enc
  refine returnsInHanded_of_row (C := Tryd.checked) (s := OpenSpec.ofChange Rows.modelRunsSpec) own started (by kernel_rfl) Tryd.func8
    (witness_row_at (enc := enc) (C := Tryd.checked) false ({ World.holding Tryd.prog os ⟨#[], #[], []⟩ with heap := ((World.holding Tryd.prog os ⟨#[], #[], []⟩).heap.modify 0 fun | .cells _ t frozen => .cells (ftab.map fun z => Value.int .u32 z).toArray t frozen | o => o).modify 1 fun | .cells _ t frozen => .cells (itab.map fun z => Value.int .i64 z).toArray t frozen | o => o } : World) #[hv (fun _ => 0) 0 0 0, .slice none 0 0, .int .i64 0] rfl (by kernel_rfl) (by kernel_rfl) (by kernel_rfl)
      (OpenSpec.preRow_of_cond 8 hx (by kernel_rfl) (fun k hk => by cases hk) (by kernel_rfl) (laid_met os))) ?_
  intro W base args ds gs before hval hW _ _ _ hL _ _
  exact contract H enc W base args ds gs before hval hW hL

theorem said : Rows.ModelRunsSaid :=
  OpenClaim.holds_of_cond 8 Tryd.f8 rfl rfl rfl rfl rfl rfl rfl ⟨rfl, rfl, rfl, rfl, rfl⟩ rfl rfl rfl rfl rfl (by kernel_rfl) Tryd.func8 (by kernel_rfl)
    (of_decide_eq_true (by kernel_rfl)) (by unfold Func.isWrapper; first | (rw [if_pos (by decide +kernel)]; kernel_rfl) | (rw [if_neg (by decide +kernel)]; exact ⟨rfl, rfl⟩))
    (fun os started H enc _ F => by rw [OpenClaim.pre_eq_preRow]; exact lifted os started H enc F)

theorem plain (f : FuncId) (fn : Func) (hf : Tryd.pinned.checked.prog.funcNamed "humpyard/humpyardlaw.ModelRuns" = some f) (hfn : Tryd.pinned.checked.prog.funcs[f]? = some fn) :
    false = Tryd.pinned.checked.prog.looks [] ∧ ∀ (j : Nat) t, fn.params[j]? = some t → Tryd.pinned.checked.prog.wantsStandIn t = false := by
  obtain rfl : f = 8 := Option.some.inj ((show Tryd.prog.funcNamed "humpyard/humpyardlaw.ModelRuns" = some 8 by kernel_rfl).symm.trans hf) |>.symm
  obtain rfl : fn = Tryd.f8 := (Option.some.inj (Tryd.func8.symm.trans hfn)).symm
  refine ⟨by kernel_rfl, fun j t ht => ?_⟩
  rw [Tryd.params8] at ht
  have hm := Array.mem_of_getElem? ht
  simp at hm
  rcases hm with rfl | rfl | rfl
  · exact (show Tryd.prog.wantsStandIn 34 = false by kernel_rfl)
  · exact (show Tryd.prog.wantsStandIn 35 = false by kernel_rfl)
  · exact (show Tryd.prog.wantsStandIn 3 = false by kernel_rfl)

theorem card : Rows.ModelRunsCardSaid :=
  Claim7.holds_tied_plain_at .later [] _ _ _ _ said (fun _ h => by cases h) (by kernel_rfl) (fun _ h => by cases h) modelRuns_row_tie rfl ⟨rfl, rfl⟩ (by kernel_rfl) rfl plain (by kernel_rfl)
end Go.Proofs.YtpiohehijkpghaaDoor.modelRuns
namespace Go.Proofs.YtpiohehijkpghaaDoor
theorem modelRuns_holds : Rows.ModelRunsCardSaid := modelRuns.card
end Go.Proofs.YtpiohehijkpghaaDoor
