/- For every word: what Decode reads in it is written by Encode as a word that is read as the same instruction; and a word that is none is read as the empty instruction, for which Encode has none. The variable decode.forms starts as the program's text lays it. -/
import Derived.Test.YtiiphfejfnlkdaaDoorCards
import Derived.Test.YtiiphfejfnlkdaaDoorTie
import Derived.Test.YtiiphfejfnlkdaaDoorDecT
import Derived.WalkKit
import Derived.ProofKit
import Derived.OpenShut
import Derived.Deep.DeepHandedRow
namespace Go.Proofs.YtiiphfejfnlkdaaDoor.decodeBack
open Go.ChangeShapes Go.WideShapes Go.ChangeAt Go.RowKit
open Hy
set_option linter.unusedVariables false

theorem own : ownKnob Tryd.prog.godebug = none := by kernel_rfl

theorem cellsz {w1 w2 : World} {B : Nat} (hk : Below B w1 w2) {b : Nat} (hB : b < B) {op rd rs1 rs2 imm : Int}
    (r0 : w1.cell? ⟨b, 0, none⟩ = some (.int .i64 op)) (r1 : w1.cell? ⟨b, 1, none⟩ = some (.int .i64 rd)) (r2 : w1.cell? ⟨b, 2, none⟩ = some (.int .i64 rs1)) (r3 : w1.cell? ⟨b, 3, none⟩ = some (.int .i64 rs2)) (r4 : w1.cell? ⟨b, 4, none⟩ = some (.int .i32 imm)) :
    w2.cell? ⟨b, 0, none⟩ = some (.int .i64 op) ∧ w2.cell? ⟨b, 1, none⟩ = some (.int .i64 rd) ∧ w2.cell? ⟨b, 2, none⟩ = some (.int .i64 rs1) ∧ w2.cell? ⟨b, 3, none⟩ = some (.int .i64 rs2) ∧ w2.cell? ⟨b, 4, none⟩ = some (.int .i32 imm) := by
  obtain ⟨hc, hf⟩ := bcell hk
  exact ⟨(hc _ _ hB).trans r0, (hc _ _ hB).trans r1, (hc _ _ hB).trans r2, (hc _ _ hB).trans r3, (hc _ _ hB).trans r4⟩

theorem hit19 : hit 19 19 = true := by decide
theorem hit19_first : ∀ m, 1 ≤ m → m < 19 → hit m 19 = false := by
  have h : ∀ m, m < 19 → 1 ≤ m → hit m 19 = false := by decide
  exact fun m h1 h2 => h m h2 h1

set_option maxHeartbeats 1000000 in
theorem walk (a0 : Int) (w0 : (Lit.int .u32 a0).wf = true) (w : World) (ht : Tab w) :
    Calls Tryd.prog 5 #[.int .u32 a0] w fun e w' => e = .returned (.bool true) ∧ Below w.heap.size w w' := by
  obtain ⟨x0, x1⟩ : 0 ≤ a0 ∧ a0 ≤ 4294967295 := bounds_u32 w0
  clear w0
  obtain ⟨P1, P2, P3, PI, HP⟩ : ∃ R1 R2 R3 I : Int, Hid ((19 : Int) = ((19 : Nat) : Int) ∧ R1 = rrg 19 128 (fm (kn 19) 1) ∧ R2 = rrg 19 32768 (fm (kn 19) 2) ∧ R3 = rrg 19 1048576 (fm (kn 19) 3) ∧ I = rim (fm (kn 19)) 19) := ⟨_, _, _, _, rfl, rfl, rfl, rfl, rfl⟩
  rcases dec_cases a0 with ⟨m, m1, m2, hm, hmf⟩ | hnone
  · obtain ⟨M, R1, R2, R3, I, H⟩ : ∃ M R1 R2 R3 I : Int, Hid (M = (m : Int) ∧ R1 = rrg a0 128 (fm (kn m) 1) ∧ R2 = rrg a0 32768 (fm (kn m) 2) ∧ R3 = rrg a0 1048576 (fm (kn m) 3) ∧ I = rim (fm (kn m)) a0) := ⟨_, _, _, _, _, rfl, rfl, rfl, rfl, rfl⟩
    go_enter Tryd.func5, Tryd.ntmps5
    go_wp2_with fail
    refine (Decode_v 19 19 (by omega) (by omega) (by omega) (by omega) hit19 hit19_first 19 P1 P2 P3 PI HP _ ht).mono ?_
    rintro e w1 ⟨rfl, hk1⟩
    have ht1 : Tab w1 := ht.below hk1 ht.size
    go_wp2_with fail
    refine (Decode_v a0 m x0 x1 m1 m2 hm hmf M R1 R2 R3 I H _ (ht1.alloc _)).mono ?_
    rintro e w2 ⟨rfl, hk2⟩
    have ht2 : Tab w2 := (ht1.alloc _).below hk2 (ht1.alloc _).size
    go_wp2_with fail
    refine (Encode_v a0 m x0 x1 m1 m2 hm hmf M R1 R2 R3 I H _ (ht2.alloc _)).mono ?_
    rintro e w3 ⟨rfl, hk3⟩
    have ht3 : Tab w3 := (ht2.alloc _).below hk3 (ht2.alloc _).size
    obtain ⟨j0, j1, j2, j3, j4⟩ := cellsz (b := w2.heap.size) (op := M) (rd := R1) (rs1 := R2) (rs2 := R3) (imm := I) hk3 (by simp) (by simp [go_sem]) (by simp [go_sem]) (by simp [go_sem]) (by simp [go_sem]) (by simp [go_sem])
    have hs3 := hk3.size
    simp at hs3
    go_wp2_with fail
    refine (Decode_v a0 m x0 x1 m1 m2 hm hmf M R1 R2 R3 I H _ ht3).mono ?_
    rintro e w4 ⟨rfl, hk4⟩
    obtain ⟨i0, i1, i2, i3, i4⟩ := cellsz (b := w2.heap.size) hk4 (by omega) j0 j1 j2 j3 j4
    have hs4 := hk4.size
    have hs5 : w2.heap.size < w4.heap.size := by omega
    go_wp2_with fail
    go_ret
    have hs1 := hk1.size
    have hs2 := hk2.size
    simp at hs2
    exact ⟨rfl, ((((hk1.alloc (by omega) _).trans (hk2.mono (by simp; omega))).alloc (by omega) _).trans ((hk3.mono (by simp; omega)).trans (hk4.mono (by omega)))).alloc (by omega) _⟩
  · go_enter Tryd.func5, Tryd.ntmps5
    go_wp2_with fail
    refine (Decode_v 19 19 (by omega) (by omega) (by omega) (by omega) hit19 hit19_first 19 P1 P2 P3 PI HP _ ht).mono ?_
    rintro e w1 ⟨rfl, hk1⟩
    have ht1 : Tab w1 := ht.below hk1 ht.size
    go_wp2_with fail
    refine (Decode_none a0 x0 x1 hnone _ (ht1.alloc _)).mono ?_
    rintro e w2 ⟨rfl, hk2⟩
    go_wp2_with fail
    refine (Encode_no 0 0 0 0 0 _ (by omega)).mono ?_
    rintro e w3 ⟨rfl, hk3⟩
    obtain ⟨j0, j1, j2, j3, j4⟩ := cellsz (b := w2.heap.size) (op := 0) (rd := 0) (rs1 := 0) (rs2 := 0) (imm := 0) hk3 (by simp) (by simp [go_sem]) (by simp [go_sem]) (by simp [go_sem]) (by simp [go_sem]) (by simp [go_sem])
    go_wp2_with fail
    go_ret
    have hs1 := hk1.size
    have hs2 := hk2.size
    simp at hs2
    exact ⟨rfl, (((hk1.alloc (by omega) _).trans (hk2.mono (by simp; omega))).alloc (by omega) _).trans (hk3.mono (by simp; omega))⟩
theorem contract (H : Type) (enc : TypeId × Value → H) (W : World) (base : Nat) (args : Array Value) (ds gs : List (DataW H)) (before : List MemPlace)
    (hval : ∀ (j : Nat) t v, Tryd.f5.params[j]? = some t → args[j]? = some v → Value.okWide Tryd.prog W .any base t v)
    (hW : DataW.Whole enc Tryd.prog Tryd.f5.params.toList Rows.decodeBackSpec.vars false W args.toList ds gs before) (hL : laidMetH Tryd.prog Rows.decodeBackRow.laid W) :
    Calls Tryd.prog 5 args W fun e W' => ∃ v, e = .returned v ∧ Rows.decodeBackSpec.post enc Tryd.prog Tryd.f5 false true false false W args v W' := by
  have hW' := hW
  obtain ⟨p, q, hA0, hV, rfl, hfz, hnd⟩ := hW
  have hA : DataW.TrodAll enc Tryd.prog W 0 (fun _ => true) true Tryd.f5.params.toList args.toList ds p := hA0
  rw [Tryd.params5] at hA hval
  obtain ⟨v0, vs0, d0, ds0, p0, q0, hargs, rfl, rfl, h0, r0⟩ := trodAll_cons hA
  obtain ⟨rfl, rfl, rfl⟩ := trodAll_nil r0
  obtain rfl : args = #[v0] := by cases args; simp_all
  obtain ⟨rfl, rfl⟩ := trodVars_none hV
  obtain ⟨a0, rfl, rfl, rfl, w0⟩ := open_int Tryd.underlying22 (hval 0 22 v0 rfl rfl) h0
  clear hA0
  simp only [List.append_nil] at hW'
  refine (walk a0 w0 W (tab_of_laid hL)).mono fun e W' ⟨he, hb⟩ => ?_
  subst he
  exact ⟨_, rfl, post_of_below hW' (fun _ _ _ => trodAll_cons_mk (shut_bool Tryd.underlying4 _) trodAll_mk0) (fun _ => trodAll_cons_mk (shut_int Tryd.underlying22 w0) trodAll_mk0) (fun _ => rfl) hb (ok_one (by kernel_rfl) rfl (okWide_bool_mk Tryd.underlying4 _))⟩

theorem laid_met (os : Os) : laidMet Tryd.prog Rows.decodeBackRow.laid (({ World.holding Tryd.prog os ⟨#[], #[], []⟩ with heap := (World.holding Tryd.prog os ⟨#[], #[], []⟩).heap.modify 0 fun | .cells _ t frozen => .cells (ftab.map fun z => Value.int .u32 z).toArray t frozen | o => o } : World).forCall (fun _ _ => 0) ⟨#[], #[.int .u32 0], []⟩).memory :=
  laidMet_of_run' 8 (by kernel_rfl) (by kernel_rfl)
theorem reads (os : Os) {H : Type} (enc : TypeId × Value → H) : ∃ places, DataW.whole enc Tryd.prog (({ World.holding Tryd.prog os ⟨#[], #[], []⟩ with heap := (World.holding Tryd.prog os ⟨#[], #[], []⟩).heap.modify 0 fun | .cells _ t frozen => .cells (ftab.map fun z => Value.int .u32 z).toArray t frozen | o => o } : World).forCall (fun _ _ => 0) ⟨#[], #[.int .u32 0], []⟩).memory Tryd.f5.params.toList Rows.decodeBackSpec.vars false #[Value.int .u32 0].toList 8 = some ([.lit (.int .u32 0)], [], places) :=
  ⟨[], by kernel_rfl⟩

set_option maxRecDepth 100000 in
theorem lifted (os : Os) (started : os.Started) (H : Type) (enc : TypeId × Value → H) (F : Stop.Interp) :
    ReturnsInHanded {} Tryd.checked os 5 .any ((OpenSpec.ofChange Rows.decodeBackSpec).preRow enc Tryd.prog Tryd.f5 Rows.decodeBackRow.domain false Rows.decodeBackRow.laid) (((OpenSpec.ofChange Rows.decodeBackSpec).at F).post enc Tryd.prog Tryd.f5 false true false false) := by
  obtain ⟨places, hx⟩ := reads os enc
  refine returnsInHanded_of_row (C := Tryd.checked) (s := OpenSpec.ofChange Rows.decodeBackSpec) own started (by kernel_rfl) Tryd.func5
    (witness_row_at (enc := enc) (C := Tryd.checked) false ({ World.holding Tryd.prog os ⟨#[], #[], []⟩ with heap := (World.holding Tryd.prog os ⟨#[], #[], []⟩).heap.modify 0 fun | .cells _ t frozen => .cells (ftab.map fun z => Value.int .u32 z).toArray t frozen | o => o } : World) #[.int .u32 0] rfl (by kernel_rfl) (by kernel_rfl) (by kernel_rfl)
      (OpenSpec.preRow_of_cond 8 hx (by kernel_rfl) (fun k hk => by cases hk) (by kernel_rfl) (laid_met os))) ?_
  intro W base args ds gs before hval hW _ _ _ hL _ _
  exact contract H enc W base args ds gs before hval hW hL

theorem said : Rows.DecodeBackSaid :=
  OpenClaim.holds_of_cond 5 Tryd.f5 rfl rfl rfl rfl rfl rfl rfl ⟨rfl, rfl, rfl, rfl, rfl⟩ rfl rfl rfl rfl rfl (by kernel_rfl) Tryd.func5 (by kernel_rfl)
    (of_decide_eq_true (by kernel_rfl)) (by unfold Func.isWrapper; first | (rw [if_pos (by decide +kernel)]; kernel_rfl) | (rw [if_neg (by decide +kernel)]; exact ⟨rfl, rfl⟩))
    (fun os started H enc _ F => by rw [OpenClaim.pre_eq_preRow]; exact lifted os started H enc F)

theorem plain (f : FuncId) (fn : Func) (hf : Tryd.pinned.checked.prog.funcNamed "humpyard/humpyardkeep.DecodeBack" = some f) (hfn : Tryd.pinned.checked.prog.funcs[f]? = some fn) :
    false = Tryd.pinned.checked.prog.looks [] ∧ ∀ (j : Nat) t, fn.params[j]? = some t → Tryd.pinned.checked.prog.wantsStandIn t = false := by
  obtain rfl : f = 5 := Option.some.inj ((show Tryd.prog.funcNamed "humpyard/humpyardkeep.DecodeBack" = some 5 by kernel_rfl).symm.trans hf) |>.symm
  obtain rfl : fn = Tryd.f5 := (Option.some.inj (Tryd.func5.symm.trans hfn)).symm
  refine ⟨by kernel_rfl, fun j t ht => ?_⟩
  rw [Tryd.params5] at ht
  obtain rfl : t = 22 := by simpa using Array.mem_of_getElem? ht
  exact (show Tryd.prog.wantsStandIn 22 = false by kernel_rfl)

theorem card : Rows.DecodeBackCardSaid :=
  Claim7.holds_tied_plain_at .later [] _ _ _ _ said (fun _ h => by cases h) (by kernel_rfl) (fun _ h => by cases h) decodeBack_row_tie rfl ⟨rfl, rfl⟩ (by kernel_rfl) rfl plain (by kernel_rfl)
end Go.Proofs.YtiiphfejfnlkdaaDoor.decodeBack
namespace Go.Proofs.YtiiphfejfnlkdaaDoor
theorem decodeBack_holds : Rows.DecodeBackCardSaid := decodeBack.card
end Go.Proofs.YtiiphfejfnlkdaaDoor
