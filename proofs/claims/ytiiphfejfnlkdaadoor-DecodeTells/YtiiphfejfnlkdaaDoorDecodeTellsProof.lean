/- For every word the program's Decode answers what the document asks: the instruction of the word and true, or the empty one and false. The variable decode.forms starts as the program's text lays it. -/
import Derived.Test.YtiiphfejfnlkdaaDoorCards
import Derived.Test.YtiiphfejfnlkdaaDoorTie
import Derived.Test.YtiiphfejfnlkdaaDoorDecT
import Derived.Test.YtiiphfejfnlkdaaDoorRefT
import Derived.WalkKit
import Derived.ProofKit
import Derived.OpenShut
import Derived.Deep.DeepHandedRow
namespace Go.Proofs.YtiiphfejfnlkdaaDoor.decodeTells
open Go.ChangeShapes Go.WideShapes Go.ChangeAt Go.RowKit
open Hy
set_option linter.unusedVariables false

theorem own : ownKnob Tryd.prog.godebug = none := by kernel_rfl

theorem cellsz {w1 w2 : World} {B : Nat} (hk : Below B w1 w2) {b : Nat} (hB : b < B) {op rd rs1 rs2 imm : Int}
    (r0 : w1.cell? ⟨b, 0, none⟩ = some (.int .i64 op)) (r1 : w1.cell? ⟨b, 1, none⟩ = some (.int .i64 rd)) (r2 : w1.cell? ⟨b, 2, none⟩ = some (.int .i64 rs1)) (r3 : w1.cell? ⟨b, 3, none⟩ = some (.int .i64 rs2)) (r4 : w1.cell? ⟨b, 4, none⟩ = some (.int .i32 imm)) :
    w2.cell? ⟨b, 0, none⟩ = some (.int .i64 op) ∧ w2.cell? ⟨b, 1, none⟩ = some (.int .i64 rd) ∧ w2.cell? ⟨b, 2, none⟩ = some (.int .i64 rs1) ∧ w2.cell? ⟨b, 3, none⟩ = some (.int .i64 rs2) ∧ w2.cell? ⟨b, 4, none⟩ = some (.int .i32 imm) := by
  obtain ⟨hc, hf⟩ := bcell hk
  exact ⟨(hc _ _ hB).trans r0, (hc _ _ hB).trans r1, (hc _ _ hB).trans r2, (hc _ _ hB).trans r3, (hc _ _ hB).trans r4⟩

set_option maxHeartbeats 1000000 in
theorem walk (a0 : Int) (w0 : (Lit.int .u32 a0).wf = true) (w : World) (ht : Tab w) :
    Calls Tryd.prog 3 #[.int .u32 a0] w fun e w' => e = .returned (.bool true) ∧ Below w.heap.size w w' := by
  obtain ⟨x0, x1⟩ : 0 ≤ a0 ∧ a0 ≤ 4294967295 := bounds_u32 w0
  clear w0
  rcases dec_cases a0 with ⟨m, m1, m2, hm, hmf⟩ | hnone
  · obtain ⟨M, R1, R2, R3, I, H⟩ : ∃ M R1 R2 R3 I : Int, Hid (M = (m : Int) ∧ R1 = rrg a0 128 (fm (kn m) 1) ∧ R2 = rrg a0 32768 (fm (kn m) 2) ∧ R3 = rrg a0 1048576 (fm (kn m) 3) ∧ I = rim (fm (kn m)) a0) := ⟨_, _, _, _, _, rfl, rfl, rfl, rfl, rfl⟩
    go_enter Tryd.func3, Tryd.ntmps3
    go_wp2_with fail
    refine (Decode_v a0 m x0 x1 m1 m2 hm hmf M R1 R2 R3 I H _ ht).mono ?_
    rintro e w1 ⟨rfl, hk1⟩
    go_wp2_with fail
    refine (rDecode_v a0 m x0 x1 m1 m2 hm M R1 R2 R3 I H _).mono ?_
    rintro e w2 ⟨rfl, hk2⟩
    obtain ⟨j0, j1, j2, j3, j4⟩ := cellsz (b := w1.heap.size) (op := M) (rd := R1) (rs1 := R2) (rs2 := R3) (imm := I) hk2 (by simp) (by simp [go_sem]) (by simp [go_sem]) (by simp [go_sem]) (by simp [go_sem]) (by simp [go_sem])
    have hs1 := hk1.size
    have hs2 := hk2.size
    simp at hs2
    have hs3 : w1.heap.size < w2.heap.size := by omega
    go_wp2_with fail
    go_ret
    exact ⟨rfl, ((hk1.alloc (by omega) _).trans (hk2.mono (by simp; omega))).alloc (by omega) _⟩
  · go_enter Tryd.func3, Tryd.ntmps3
    go_wp2_with fail
    refine (Decode_none a0 x0 x1 hnone _ ht).mono ?_
    rintro e w1 ⟨rfl, hk1⟩
    go_wp2_with fail
    refine (rDecode_none a0 x0 x1 hnone _).mono ?_
    rintro e w2 ⟨rfl, hk2⟩
    obtain ⟨j0, j1, j2, j3, j4⟩ := cellsz (b := w1.heap.size) (op := 0) (rd := 0) (rs1 := 0) (rs2 := 0) (imm := 0) hk2 (by simp) (by simp [go_sem]) (by simp [go_sem]) (by simp [go_sem]) (by simp [go_sem]) (by simp [go_sem])
    have hs1 := hk1.size
    have hs2 := hk2.size
    simp at hs2
    have hs3 : w1.heap.size < w2.heap.size := by omega
    go_wp2_with fail
    go_ret
    exact ⟨rfl, ((hk1.alloc (by omega) _).trans (hk2.mono (by simp; omega))).alloc (by omega) _⟩

theorem contract (H : Type) (enc : TypeId × Value → H) (W : World) (base : Nat) (args : Array Value) (ds gs : List (DataW H)) (before : List MemPlace)
    (hval : ∀ (j : Nat) t v, Tryd.f3.params[j]? = some t → args[j]? = some v → Value.okWide Tryd.prog W .any base t v)
    (hW : DataW.Whole enc Tryd.prog Tryd.f3.params.toList Rows.decodeTellsSpec.vars false W args.toList ds gs before) (hL : laidMetH Tryd.prog Rows.decodeTellsRow.laid W) :
    Calls Tryd.prog 3 args W fun e W' => ∃ v, e = .returned v ∧ Rows.decodeTellsSpec.post enc Tryd.prog Tryd.f3 false true false false W args v W' := by
  have hW' := hW
  obtain ⟨p, q, hA0, hV, rfl, hfz, hnd⟩ := hW
  have hA : DataW.TrodAll enc Tryd.prog W 0 (fun _ => true) true Tryd.f3.params.toList args.toList ds p := hA0
  rw [Tryd.params3] at hA hval
  obtain ⟨v0, vs0, d0, ds0, p0, q0, hargs, rfl, rfl, h0, r0⟩ := trodAll_cons hA
  obtain ⟨rfl, rfl, rfl⟩ := trodAll_nil r0
  obtain rfl : args = #[v0] := by cases args; simp_all
  obtain ⟨rfl, rfl⟩ := trodVars_none hV
  obtain ⟨a0, rfl, rfl, rfl, w0⟩ := open_int Tryd.underlying22 (hval 0 22 v0 rfl rfl) h0
  clear hA0
  simp only [List.append_nil] at hW'
  refine (walk a0 w0 W (tab_of_laid hL)).mono fun e W' ⟨he, hb⟩ => ?_
  subst he
  exact ⟨_, rfl, post_of_below hW' (fun _ _ _ => trodAll_cons_mk (shut_bool Tryd.underlying4 _) trodAll_mk0) (fun _ => trodAll_cons_mk (shut_int Tryd.underlying22 w0) trodAll_mk0) (fun _ => rfl) hb (ok_one (by kernel_rfl) rfl (okWide_bool_mk Tryd.underlying4 _))⟩

theorem laid_met (os : Os) : laidMet Tryd.prog Rows.decodeTellsRow.laid (({ World.holding Tryd.prog os ⟨#[], #[], []⟩ with heap := (World.holding Tryd.prog os ⟨#[], #[], []⟩).heap.modify 0 fun | .cells _ t frozen => .cells (ftab.map fun z => Value.int .u32 z).toArray t frozen | o => o } : World).forCall (fun _ _ => 0) ⟨#[], #[.int .u32 0], []⟩).memory :=
  laidMet_of_run' 8 (by kernel_rfl) (by kernel_rfl)
theorem reads (os : Os) {H : Type} (enc : TypeId × Value → H) : ∃ places, DataW.whole enc Tryd.prog (({ World.holding Tryd.prog os ⟨#[], #[], []⟩ with heap := (World.holding Tryd.prog os ⟨#[], #[], []⟩).heap.modify 0 fun | .cells _ t frozen => .cells (ftab.map fun z => Value.int .u32 z).toArray t frozen | o => o } : World).forCall (fun _ _ => 0) ⟨#[], #[.int .u32 0], []⟩).memory Tryd.f3.params.toList Rows.decodeTellsSpec.vars false #[Value.int .u32 0].toList 8 = some ([.lit (.int .u32 0)], [], places) :=
  ⟨[], by kernel_rfl⟩

set_option maxRecDepth 100000 in
theorem lifted (os : Os) (started : os.Started) (H : Type) (enc : TypeId × Value → H) (F : Stop.Interp) :
    ReturnsInHanded {} Tryd.checked os 3 .any ((OpenSpec.ofChange Rows.decodeTellsSpec).preRow enc Tryd.prog Tryd.f3 Rows.decodeTellsRow.domain false Rows.decodeTellsRow.laid) (((OpenSpec.ofChange Rows.decodeTellsSpec).at F).post enc Tryd.prog Tryd.f3 false true false false) := by
  obtain ⟨places, hx⟩ := reads os enc
  refine returnsInHanded_of_row (C := Tryd.checked) (s := OpenSpec.ofChange Rows.decodeTellsSpec) own started (by kernel_rfl) Tryd.func3
    (witness_row_at (enc := enc) (C := Tryd.checked) false ({ World.holding Tryd.prog os ⟨#[], #[], []⟩ with heap := (World.holding Tryd.prog os ⟨#[], #[], []⟩).heap.modify 0 fun | .cells _ t frozen => .cells (ftab.map fun z => Value.int .u32 z).toArray t frozen | o => o } : World) #[.int .u32 0] rfl (by kernel_rfl) (by kernel_rfl) (by kernel_rfl)
      (OpenSpec.preRow_of_cond 8 hx (by kernel_rfl) (fun k hk => by cases hk) (by kernel_rfl) (laid_met os))) ?_
  intro W base args ds gs before hval hW _ _ _ hL _ _
  exact contract H enc W base args ds gs before hval hW hL

theorem said : Rows.DecodeTellsSaid :=
  OpenClaim.holds_of_cond 3 Tryd.f3 rfl rfl rfl rfl rfl rfl rfl ⟨rfl, rfl, rfl, rfl, rfl⟩ rfl rfl rfl rfl rfl (by kernel_rfl) Tryd.func3 (by kernel_rfl)
    (of_decide_eq_true (by kernel_rfl)) (by unfold Func.isWrapper; first | (rw [if_pos (by decide +kernel)]; kernel_rfl) | (rw [if_neg (by decide +kernel)]; exact ⟨rfl, rfl⟩))
    (fun os started H enc _ F => by rw [OpenClaim.pre_eq_preRow]; exact lifted os started H enc F)

theorem plain (f : FuncId) (fn : Func) (hf : Tryd.pinned.checked.prog.funcNamed "humpyard/humpyardlaw.DecodeTells" = some f) (hfn : Tryd.pinned.checked.prog.funcs[f]? = some fn) :
    false = Tryd.pinned.checked.prog.looks [] ∧ ∀ (j : Nat) t, fn.params[j]? = some t → Tryd.pinned.checked.prog.wantsStandIn t = false := by
  obtain rfl : f = 3 := Option.some.inj ((show Tryd.prog.funcNamed "humpyard/humpyardlaw.DecodeTells" = some 3 by kernel_rfl).symm.trans hf) |>.symm
  obtain rfl : fn = Tryd.f3 := (Option.some.inj (Tryd.func3.symm.trans hfn)).symm
  refine ⟨by kernel_rfl, fun j t ht => ?_⟩
  rw [Tryd.params3] at ht
  obtain rfl : t = 22 := by simpa using Array.mem_of_getElem? ht
  exact (show Tryd.prog.wantsStandIn 22 = false by kernel_rfl)

theorem card : Rows.DecodeTellsCardSaid :=
  Claim7.holds_tied_plain_at .later [] _ _ _ _ said (fun _ h => by cases h) (by kernel_rfl) (fun _ h => by cases h) decodeTells_row_tie rfl ⟨rfl, rfl⟩ (by kernel_rfl) rfl plain (by kernel_rfl)
end Go.Proofs.YtiiphfejfnlkdaaDoor.decodeTells
namespace Go.Proofs.YtiiphfejfnlkdaaDoor
theorem decodeTells_holds : Rows.DecodeTellsCardSaid := decodeTells.card
end Go.Proofs.YtiiphfejfnlkdaaDoor
