/- NOBODY CAN TELL: for every two cores, two scripts of choices and two numbers of cycles, of one hart and memory: what is committed of the one is what is committed first of the other one. The variables decode.forms and hart.immediate start as the program's text lays them. -/
import Derived.Test.YtpiohehijkpghacGreatDoorCards
import Derived.Test.YtpiohehijkpghacGreatDoorTie
import Derived.Test.YtpiohehijkpghacGreatDoorG46
import Derived.WalkKit
import Derived.ProofKit
import Derived.OpenShut
import Derived.Deep.DeepHandedRow
import Derived.Deep.Fields
import Derived.SizedLaws
import Derived.ChangeOld
import Derived.ChangeKeysEq
namespace Go.Proofs.YtpiohehijkpghacGreatDoor.coreAlike
open Go.ChangeShapes Go.WideShapes Go.ChangeAt Go.RowKit
open Hy
set_option linter.unusedVariables false

theorem own : ownKnob Tryz.prog.godebug = none := by kernel_rfl
theorem laidOut : laidOutB Tryz.prog = true := by kernel_rfl


set_option maxRecDepth 100000 in
theorem contract (H : Type) (enc : TypeId × Value → H) (W : World) (base : Nat) (args : Array Value) (ds gs : List (DataW H)) (before : List MemPlace)
    (hval : ∀ (j : Nat) t v, Tryz.f3.params[j]? = some t → args[j]? = some v → Value.okWide Tryz.prog W .any base t v)
    (hW : DataW.Whole enc Tryz.prog Tryz.f3.params.toList Rows.coreAlikeSpec.vars false W args.toList ds gs before) (hsz : (DataW.weightsEach Tryz.prog (Tryz.f3.params.toList ++ Rows.coreAlikeSpec.plain.varTypes Tryz.prog) (ds ++ gs)).all (· ≤ reachBytes) = true) (hL : laidMetH Tryz.prog Rows.coreAlikeRow.laid W) :
    Calls Tryz.prog 3 args W fun e W' => ∃ v, e = .returned v ∧ Rows.coreAlikeSpec.post enc Tryz.prog Tryz.f3 false true false false W args v W' := by
  have hW' := hW
  obtain ⟨p, q, hA0, hV, rfl, hfz, hnd⟩ := hW
  have hA : DataW.TrodAll enc Tryz.prog W 0 (fun _ => true) true Tryz.f3.params.toList args.toList ds p := hA0
  rw [Tryz.params3] at hA hval hsz
  obtain ⟨v0, vs0, d0, ds0, p0, q0, hargs, rfl, rfl, h0, r0⟩ := trodAll_cons hA
  obtain ⟨v1, vs1, d1, ds1, p1, q1, rfl, rfl, rfl, h1, r1⟩ := trodAll_cons r0
  obtain ⟨v2, vs2, d2, ds2, p2, q2, rfl, rfl, rfl, h2, r2⟩ := trodAll_cons r1
  obtain ⟨v3, vs3, d3, ds3, p3, q3, rfl, rfl, rfl, h3, r3⟩ := trodAll_cons r2
  obtain ⟨v4, vs4, d4, ds4, p4, q4, rfl, rfl, rfl, h4, r4⟩ := trodAll_cons r3
  obtain ⟨v5, vs5, d5, ds5, p5, q5, rfl, rfl, rfl, h5, r5⟩ := trodAll_cons r4
  obtain ⟨v6, vs6, d6, ds6, p6, q6, rfl, rfl, rfl, h6, r6⟩ := trodAll_cons r5
  obtain ⟨v7, vs7, d7, ds7, p7, q7, rfl, rfl, rfl, h7, r7⟩ := trodAll_cons r6
  obtain ⟨rfl, rfl, rfl⟩ := trodAll_nil r7
  obtain rfl : args = #[v0, v1, v2, v3, v4, v5, v6, v7] := by cases args; simp_all
  obtain ⟨rfl, rfl⟩ := trodVars_none hV
  obtain ⟨c0, rfl, hs0⟩ := okWide_struct Tryz.underlying23 (hval 0 23 v0 rfl rfl)
  have hs0 : c0.size = 3 := hs0.trans (by kernel_rfl)
  obtain ⟨c1, rfl, hs1⟩ := okWide_struct Tryz.underlying23 (hval 1 23 v1 rfl rfl)
  have hs1 : c1.size = 3 := hs1.trans (by kernel_rfl)
  obtain ⟨cs, rfl, hs2⟩ := okWide_struct Tryz.underlying27 (hval 2 27 v2 rfl rfl)
  have hs2 : cs.size = 35 := hs2.trans (by kernel_rfl)
  obtain ⟨a3, n3, c3, rfl⟩ := okWide_slice Tryz.underlying28 (hval 3 28 v3 rfl rfl)
  obtain ⟨a4, n4, c4, rfl⟩ := okWide_slice Tryz.underlying29 (hval 4 29 v4 rfl rfl)
  obtain ⟨a5, n5, c5, rfl⟩ := okWide_slice Tryz.underlying29 (hval 5 29 v5 rfl rfl)
  obtain ⟨z6, rfl, rfl, rfl, w6⟩ := open_int Tryz.underlying3 (hval 6 3 v6 rfl rfl) h6
  obtain ⟨z7, rfl, rfl, rfl, w7⟩ := open_int Tryz.underlying3 (hval 7 3 v7 rfl rfl) h7
  have k0 := h0
  have lt0 : ∀ x ∈ p0, x.block < W.heap.size := by obtain ⟨m, hm⟩ := k0; exact DataW.trod_lt m _ _ _ hm
  have k1 := h1
  have lt1 : ∀ x ∈ p1, x.block < W.heap.size := by obtain ⟨m, hm⟩ := k1; exact DataW.trod_lt m _ _ _ hm
  have k2 := h2
  have lt2 : ∀ x ∈ p2, x.block < W.heap.size := by obtain ⟨m, hm⟩ := k2; exact DataW.trod_lt m _ _ _ hm
  have k3 := h3
  have lt3 : ∀ x ∈ p3, x.block < W.heap.size := by obtain ⟨m, hm⟩ := k3; exact DataW.trod_lt m _ _ _ hm
  have k4 := h4
  have lt4 : ∀ x ∈ p4, x.block < W.heap.size := by obtain ⟨m, hm⟩ := k4; exact DataW.trod_lt m _ _ _ hm
  have k5 := h5
  have lt5 : ∀ x ∈ p5, x.block < W.heap.size := by obtain ⟨m, hm⟩ := k5; exact DataW.trod_lt m _ _ _ hm
  obtain ⟨win0, phys0, wide0, rfl⟩ : ∃ a b c : Int, c0 = #[.int .i64 a, .int .i64 b, .int .i64 c] := by
    obtain ⟨fuel, hf⟩ := h0
    exact Co.config_cells hs0 hf
  obtain ⟨win1, phys1, wide1, rfl⟩ : ∃ a b c : Int, c1 = #[.int .i64 a, .int .i64 b, .int .i64 c] := by
    obtain ⟨fuel, hf⟩ := h1
    exact Co.config_cells hs1 hf
  obtain ⟨R, pc, st, ca, hcs', hR, pc0, pc1⟩ : ∃ (R : Nat → Int) (pc st ca : Int), cs = hcs R pc st ca ∧ (∀ i, i < 32 → 0 ≤ R i ∧ R i ≤ 4294967295) ∧ 0 ≤ pc ∧ pc ≤ 4294967295 := by
    obtain ⟨fuel, hf⟩ := h2
    exact hart_cells hs2 hf
  subst hcs'
  obtain ⟨f3, hM3, hf3⟩ : ∃ f : Nat → Int, Wi.LC W a3 n3 c3 1 (Co.bcs f n3) ∧ (∀ i, i < n3 → 0 ≤ f i ∧ f i ≤ 255) := by
    obtain ⟨fuel, hf⟩ := h3
    exact (Co.bytes_lc hf).2
  have hn3 : n3 ≤ 140737488355328 := by
    obtain ⟨fuel, hf⟩ := h3
    rcases (Co.bytes_lc hf).1 with h | ⟨xs, ys, hd, hl⟩
    · omega
    · have hreach := sized_slice hsz (j := 3) (t := 28) (e := 5) rfl (by rw [hd]; rfl) Tryz.underlying28
      rw [show Tryz.prog.bytesOf 5 = 1 by kernel_rfl] at hreach
      simp only [reachBytes] at hreach
      omega
  obtain ⟨scr4, hscr4, hS4⟩ : ∃ scr : List Int, scr.length = n4 ∧ Wi.LC W a4 n4 c4 1 (Wi.ics scr) := by
    obtain ⟨fuel, hf⟩ := h4
    exact (Co.ints_lc hf).2
  have hn4 : n4 ≤ 140737488355328 := by
    obtain ⟨fuel, hf⟩ := h4
    rcases (Co.ints_lc hf).1 with h | ⟨xs, ys, hd, hl⟩
    · omega
    · have hreach := sized_slice hsz (j := 4) (t := 29) (e := 3) rfl (by rw [hd]; rfl) Tryz.underlying29
      rw [show Tryz.prog.bytesOf 3 = 8 by kernel_rfl] at hreach
      simp only [reachBytes] at hreach
      omega
  obtain ⟨scr5, hscr5, hS5⟩ : ∃ scr : List Int, scr.length = n5 ∧ Wi.LC W a5 n5 c5 1 (Wi.ics scr) := by
    obtain ⟨fuel, hf⟩ := h5
    exact (Co.ints_lc hf).2
  have hn5 : n5 ≤ 140737488355328 := by
    obtain ⟨fuel, hf⟩ := h5
    rcases (Co.ints_lc hf).1 with h | ⟨xs, ys, hd, hl⟩
    · omega
    · have hreach := sized_slice hsz (j := 5) (t := 29) (e := 3) rfl (by rw [hd]; rfl) Tryz.underlying29
      rw [show Tryz.prog.bytesOf 3 = 8 by kernel_rfl] at hreach
      simp only [reachBytes] at hreach
      omega
  obtain ⟨hT, hT2⟩ := tabs_of_laid hL
  clear hA0
  refine (Co.coreAlike_all win0 phys0 wide0 win1 phys1 wide1 R pc st ca a3 n3 c3 a4 n4 c4 a5 n5 c5 z6 z7 W hT hT2 hR ⟨pc0, pc1⟩ f3 hM3 hf3 scr4 hscr4 hS4 scr5 hscr5 hS5 hn3 hn4 hn5).mono fun e W' ⟨he, bel⟩ => ?_
  subst he
  exact ⟨_, rfl, _, _, _, [], _, [], hW', trodAll_mk1 (shut_bool Tryz.underlying4 _), (trodAll_cons_mk (Below.trod laidOut (by kernel_rfl) (of_decide_eq_true (by kernel_rfl)) k0 bel lt0) (trodAll_cons_mk (Below.trod laidOut (by kernel_rfl) (of_decide_eq_true (by kernel_rfl)) k1 bel lt1) (trodAll_cons_mk (Below.trod laidOut (by kernel_rfl) (of_decide_eq_true (by kernel_rfl)) k2 bel lt2) (trodAll_cons_mk (Below.trod laidOut (by kernel_rfl) (of_decide_eq_true (by kernel_rfl)) k3 bel lt3) (trodAll_cons_mk (Below.trod laidOut (by kernel_rfl) (of_decide_eq_true (by kernel_rfl)) k4 bel lt4) (trodAll_cons_mk (Below.trod laidOut (by kernel_rfl) (of_decide_eq_true (by kernel_rfl)) k5 bel lt5) (trodAll_cons_mk (shut_int Tryz.underlying3 w6) (trodAll_cons_mk (shut_int Tryz.underlying3 w7) trodAll_mk0)))))))), rfl, bel.frame _, fun h => by cases h⟩

theorem laid_met (os : Os) : laidMet Tryz.prog Rows.coreAlikeRow.laid (({ World.holding Tryz.prog os ⟨#[], #[], []⟩ with heap := ((World.holding Tryz.prog os ⟨#[], #[], []⟩).heap.modify 0 fun | .cells _ t frozen => .cells (ftab.map fun z => Value.int .u32 z).toArray t frozen | o => o).modify 2 fun | .cells _ t frozen => .cells (itab.map fun z => Value.int .i64 z).toArray t frozen | o => o } : World).forCall (fun _ _ => 0) ⟨#[], #[.agg #[.int .i64 0, .int .i64 0, .int .i64 0], .agg #[.int .i64 0, .int .i64 0, .int .i64 0], hv (fun _ => 0) 0 0 0, .slice none 0 0, .slice none 0 0, .slice none 0 0, .int .i64 0, .int .i64 0], []⟩).memory :=
  laidMet_of_run' 8 (by kernel_rfl) (by kernel_rfl)
theorem reads (os : Os) {H : Type} (enc : TypeId × Value → H) : ∃ places, DataW.whole enc Tryz.prog (({ World.holding Tryz.prog os ⟨#[], #[], []⟩ with heap := ((World.holding Tryz.prog os ⟨#[], #[], []⟩).heap.modify 0 fun | .cells _ t frozen => .cells (ftab.map fun z => Value.int .u32 z).toArray t frozen | o => o).modify 2 fun | .cells _ t frozen => .cells (itab.map fun z => Value.int .i64 z).toArray t frozen | o => o } : World).forCall (fun _ _ => 0) ⟨#[], #[.agg #[.int .i64 0, .int .i64 0, .int .i64 0], .agg #[.int .i64 0, .int .i64 0, .int .i64 0], hv (fun _ => 0) 0 0 0, .slice none 0 0, .slice none 0 0, .slice none 0 0, .int .i64 0, .int .i64 0], []⟩).memory Tryz.f3.params.toList Rows.coreAlikeSpec.vars false (#[.agg #[.int .i64 0, .int .i64 0, .int .i64 0], .agg #[.int .i64 0, .int .i64 0, .int .i64 0], hv (fun _ => 0) 0 0 0, .slice none 0 0, .slice none 0 0, .slice none 0 0, .int .i64 0, .int .i64 0] : Array Value).toList 8 = some ([.agg [.lit (.int .i64 0), .lit (.int .i64 0), .lit (.int .i64 0)], .agg [.lit (.int .i64 0), .lit (.int .i64 0), .lit (.int .i64 0)], .agg [.agg [.lit (.int .u32 0), .lit (.int .u32 0), .lit (.int .u32 0), .lit (.int .u32 0), .lit (.int .u32 0), .lit (.int .u32 0), .lit (.int .u32 0), .lit (.int .u32 0), .lit (.int .u32 0), .lit (.int .u32 0), .lit (.int .u32 0), .lit (.int .u32 0), .lit (.int .u32 0), .lit (.int .u32 0), .lit (.int .u32 0), .lit (.int .u32 0), .lit (.int .u32 0), .lit (.int .u32 0), .lit (.int .u32 0), .lit (.int .u32 0), .lit (.int .u32 0), .lit (.int .u32 0), .lit (.int .u32 0), .lit (.int .u32 0), .lit (.int .u32 0), .lit (.int .u32 0), .lit (.int .u32 0), .lit (.int .u32 0), .lit (.int .u32 0), .lit (.int .u32 0), .lit (.int .u32 0), .lit (.int .u32 0)], .lit (.int .u32 0), .lit (.int .i64 0), .lit (.int .i64 0)], .nil, .nil, .nil, .lit (.int .i64 0), .lit (.int .i64 0)], [], places) :=
  ⟨[], by kernel_rfl⟩

set_option maxRecDepth 100000 in
theorem lifted (os : Os) (started : os.Started) (H : Type) (enc : TypeId × Value → H) (F : Stop.Interp) :
    ReturnsInHanded {} Tryz.checked os 3 .any ((OpenSpec.ofChange Rows.coreAlikeSpec).preRow enc Tryz.prog Tryz.f3 Rows.coreAlikeRow.domain false Rows.coreAlikeRow.laid) (((OpenSpec.ofChange Rows.coreAlikeSpec).at F).post enc Tryz.prog Tryz.f3 false true false false) := by
  obtain ⟨places, hx⟩ := reads os enc
  refine returnsInHanded_of_row (C := Tryz.checked) (s := OpenSpec.ofChange Rows.coreAlikeSpec) own started (by kernel_rfl) Tryz.func3
    (witness_row_at (enc := enc) (C := Tryz.checked) false ({ World.holding Tryz.prog os ⟨#[], #[], []⟩ with heap := ((World.holding Tryz.prog os ⟨#[], #[], []⟩).heap.modify 0 fun | .cells _ t frozen => .cells (ftab.map fun z => Value.int .u32 z).toArray t frozen | o => o).modify 2 fun | .cells _ t frozen => .cells (itab.map fun z => Value.int .i64 z).toArray t frozen | o => o } : World) #[.agg #[.int .i64 0, .int .i64 0, .int .i64 0], .agg #[.int .i64 0, .int .i64 0, .int .i64 0], hv (fun _ => 0) 0 0 0, .slice none 0 0, .slice none 0 0, .slice none 0 0, .int .i64 0, .int .i64 0] rfl (by kernel_rfl) (by kernel_rfl) (by kernel_rfl)
      (OpenSpec.preRow_of_cond 8 hx (by kernel_rfl) (fun k hk => by cases hk) (by kernel_rfl) (laid_met os))) ?_
  intro W base args ds gs before hval hW _ _ hsz hL _ _
  exact contract H enc W base args ds gs before hval hW hsz hL

theorem said : Rows.CoreAlikeSaid :=
  OpenClaim.holds_of_cond 3 Tryz.f3 rfl rfl rfl rfl rfl rfl rfl ⟨rfl, rfl, rfl, rfl, rfl⟩ rfl rfl rfl rfl rfl (by kernel_rfl) Tryz.func3 (by kernel_rfl)
    (of_decide_eq_true (by kernel_rfl)) (by unfold Func.isWrapper; first | (rw [if_pos (by decide +kernel)]; kernel_rfl) | (rw [if_neg (by decide +kernel)]; exact ⟨rfl, rfl⟩))
    (fun os started H enc _ F => by rw [OpenClaim.pre_eq_preRow]; exact lifted os started H enc F)

theorem plain (f : FuncId) (fn : Func) (hf : Tryz.pinned.checked.prog.funcNamed "humpyard/humpyardkeep.CoreAlike" = some f) (hfn : Tryz.pinned.checked.prog.funcs[f]? = some fn) :
    true = Tryz.pinned.checked.prog.looks [] ∧ ∀ (j : Nat) t, fn.params[j]? = some t → Tryz.pinned.checked.prog.wantsStandIn t = false := by
  obtain rfl : f = 3 := Option.some.inj ((show Tryz.prog.funcNamed "humpyard/humpyardkeep.CoreAlike" = some 3 by kernel_rfl).symm.trans hf) |>.symm
  obtain rfl : fn = Tryz.f3 := (Option.some.inj (Tryz.func3.symm.trans hfn)).symm
  refine ⟨by kernel_rfl, fun j t ht => ?_⟩
  rw [Tryz.params3] at ht
  have hm := Array.mem_of_getElem? ht
  simp at hm
  have hm : t = 23 ∨ t = 27 ∨ t = 28 ∨ t = 29 ∨ t = 3 := by omega
  rcases hm with rfl | rfl | rfl | rfl | rfl
  · exact (show Tryz.prog.wantsStandIn 23 = false by kernel_rfl)
  · exact (show Tryz.prog.wantsStandIn 27 = false by kernel_rfl)
  · exact (show Tryz.prog.wantsStandIn 28 = false by kernel_rfl)
  · exact (show Tryz.prog.wantsStandIn 29 = false by kernel_rfl)
  · exact (show Tryz.prog.wantsStandIn 3 = false by kernel_rfl)

theorem card : Rows.CoreAlikeCardSaid :=
  Claim7.holds_tied_plain_at .later [] _ _ _ _ said (fun _ h => by cases h) (by kernel_rfl) (fun _ h => by cases h) coreAlike_row_tie rfl ⟨rfl, rfl⟩ (by kernel_rfl) rfl plain (by kernel_rfl)
end Go.Proofs.YtpiohehijkpghacGreatDoor.coreAlike
namespace Go.Proofs.YtpiohehijkpghacGreatDoor
theorem coreAlike_holds : Rows.CoreAlikeCardSaid := coreAlike.card
end Go.Proofs.YtpiohehijkpghacGreatDoor
