/- For every instruction the program's Encode answers a word that the document's Decode reads as that instruction, where the document's Is says that it is one; else 0 and ErrForm. The variable decode.forms starts as the program's text lays it. -/
import Derived.Test.YtkpkiojigbkghaaDoorCards
import Derived.Test.YtkpkiojigbkghaaDoorTie
import Derived.Test.YtkpkiojigbkghaaDoorDecT
import Derived.Test.YtkpkiojigbkghaaDoorRefT
import Derived.Test.YtkpkiojigbkghaaDoorIsT
import Derived.WalkKit
import Derived.ProofKit
import Derived.OpenShut
import Derived.Deep.DeepHandedRow
import Derived.Deep.Fields
namespace Go.Proofs.YtkpkiojigbkghaaDoor.decodeEncodes
open Go.ChangeShapes Go.WideShapes Go.ChangeAt Go.RowKit
open Hy
set_option linter.unusedVariables false

theorem own : ownKnob Tryd.prog.godebug = none := by kernel_rfl

theorem cellsz {w1 w2 : World} {B : Nat} (hk : Below B w1 w2) {b : Nat} (hB : b < B) {op rd rs1 rs2 imm : Int}
    (r0 : w1.cell? ⟨b, 0, none⟩ = some (.int .i64 op)) (r1 : w1.cell? ⟨b, 1, none⟩ = some (.int .i64 rd)) (r2 : w1.cell? ⟨b, 2, none⟩ = some (.int .i64 rs1)) (r3 : w1.cell? ⟨b, 3, none⟩ = some (.int .i64 rs2)) (r4 : w1.cell? ⟨b, 4, none⟩ = some (.int .i32 imm)) :
    w2.cell? ⟨b, 0, none⟩ = some (.int .i64 op) ∧ w2.cell? ⟨b, 1, none⟩ = some (.int .i64 rd) ∧ w2.cell? ⟨b, 2, none⟩ = some (.int .i64 rs1) ∧ w2.cell? ⟨b, 3, none⟩ = some (.int .i64 rs2) ∧ w2.cell? ⟨b, 4, none⟩ = some (.int .i32 imm) := by
  obtain ⟨hc, hf⟩ := bcell hk
  exact ⟨(hc _ _ hB).trans r0, (hc _ _ hB).trans r1, (hc _ _ hB).trans r2, (hc _ _ hB).trans r3, (hc _ _ hB).trans r4⟩

/-- Of an instruction that is none. -/
theorem walk_no (op rd rs1 rs2 imm : Int) (w : World)
    (hE : ∀ w, w.heap.size > 0 → Tab w → Calls Tryd.prog 8 #[iv op rd rs1 rs2 imm] w fun e w' => e = .returned (.tuple #[.int .u32 0, .int .i64 2]) ∧ Below w.heap.size w w')
    (hI : ∀ w, Calls Tryd.prog 9 #[iv op rd rs1 rs2 imm] w fun e w' => e = .returned (.bool false) ∧ Below w.heap.size w w') (ht : Tab w) :
    Calls Tryd.prog 4 #[iv op rd rs1 rs2 imm] w fun e w' => e = .returned (.bool true) ∧ Below w.heap.size w w' := by
  have h0 := ht.size
  go_enter Tryd.func4, Tryd.ntmps4
  go_wp2_with fail
  refine (hE _ (by simp) (ht.alloc _)).mono ?_
  rintro e w1 ⟨rfl, hk1⟩
  obtain ⟨j0, j1, j2, j3, j4⟩ := cellsz (b := w.heap.size) (op := op) (rd := rd) (rs1 := rs1) (rs2 := rs2) (imm := imm) hk1 (by simp) (by simp [go_sem]) (by simp [go_sem]) (by simp [go_sem]) (by simp [go_sem]) (by simp [go_sem])
  have hs1 := hk1.size
  simp at hs1
  have hs1' : w.heap.size < w1.heap.size := by omega
  go_wp2_with fail
  refine (hI _).mono ?_
  rintro e w2 ⟨rfl, hk2⟩
  go_wp2_with fail
  go_ret
  exact ⟨rfl, ((Below.refl _ _).alloc (Nat.le_refl _) _).trans ((hk1.mono (by simp)).trans (hk2.mono (by omega)))⟩

/-- Of an instruction that is one. -/
theorem walk_yes (op rd rs1 rs2 imm X : Int) (w : World)
    (hE : ∀ w, w.heap.size > 0 → Tab w → Calls Tryd.prog 8 #[iv op rd rs1 rs2 imm] w fun e w' => e = .returned (.tuple #[.int .u32 X, .int .i64 0]) ∧ Below w.heap.size w w')
    (hI : ∀ w, Calls Tryd.prog 9 #[iv op rd rs1 rs2 imm] w fun e w' => e = .returned (.bool true) ∧ Below w.heap.size w w')
    (hD : ∀ w, Calls Tryd.prog 7 #[.int .u32 X] w fun e w' => e = .returned (.tuple #[iv op rd rs1 rs2 imm, .bool true]) ∧ Below w.heap.size w w') (ht : Tab w) :
    Calls Tryd.prog 4 #[iv op rd rs1 rs2 imm] w fun e w' => e = .returned (.bool true) ∧ Below w.heap.size w w' := by
  have h0 := ht.size
  go_enter Tryd.func4, Tryd.ntmps4
  go_wp2_with fail
  refine (hE _ (by simp) (ht.alloc _)).mono ?_
  rintro e w1 ⟨rfl, hk1⟩
  obtain ⟨j0, j1, j2, j3, j4⟩ := cellsz (b := w.heap.size) (op := op) (rd := rd) (rs1 := rs1) (rs2 := rs2) (imm := imm) hk1 (by simp) (by simp [go_sem]) (by simp [go_sem]) (by simp [go_sem]) (by simp [go_sem]) (by simp [go_sem])
  have hs1 := hk1.size
  simp at hs1
  have hs1' : w.heap.size < w1.heap.size := by omega
  go_wp2_with fail
  refine (hI _).mono ?_
  rintro e w2 ⟨rfl, hk2⟩
  obtain ⟨l0, l1, l2, l3, l4⟩ := cellsz hk2 hs1' j0 j1 j2 j3 j4
  have hs2 := hk2.size
  have hs2' : w.heap.size < w2.heap.size := by omega
  clear j0 j1 j2 j3 j4
  go_wp2_with fail
  refine (hD _).mono ?_
  rintro e w3 ⟨rfl, hk3⟩
  obtain ⟨m0, m1, m2, m3, m4⟩ := cellsz hk3 hs2' l0 l1 l2 l3 l4
  have hs3 := hk3.size
  have hs3' : w.heap.size < w3.heap.size := by omega
  clear l0 l1 l2 l3 l4
  go_wp2_with fail
  go_ret
  exact ⟨rfl, (((Below.refl _ _).alloc (Nat.le_refl _) _).trans ((hk1.mono (by simp)).trans ((hk2.mono (by omega)).trans (hk3.mono (by omega))))).alloc (by omega) _⟩

theorem walk (op rd rs1 rs2 imm : Int) (g4 : (Lit.int .i32 imm).wf = true) (w : World) (ht : Tab w) :
    Calls Tryd.prog 4 #[iv op rd rs1 rs2 imm] w fun e w' => e = .returned (.bool true) ∧ Below w.heap.size w w' := by
  obtain ⟨i0, i1⟩ : -2147483648 ≤ imm ∧ imm ≤ 2147483647 := by
    have := bounds_i32 g4
    omega
  by_cases h : op < 1 ∨ 48 < op
  · exact walk_no op rd rs1 rs2 imm w (fun w _ _ => Encode_no op rd rs1 rs2 imm w h) (fun w => Is_no op rd rs1 rs2 imm (by omega) w) ht
  · obtain ⟨n, rfl⟩ := Int.eq_ofNat_of_zero_le (show 0 ≤ op by omega)
    have n1 : 1 ≤ n := by omega
    have n2 : n ≤ 48 := by omega
    have hbi := back_isf n n1 n2 rd rs1 rs2 imm i0 i1
    have hr := bits_rng .or (kb n) (wb (fm (kn n)) rd rs1 rs2 imm 4)
    by_cases hb : back (word n rd rs1 rs2 imm) n rd rs1 rs2 imm
    · refine walk_yes n rd rs1 rs2 imm (word n rd rs1 rs2 imm) w (fun w _ ht => (Encode_any n n1 n2 rd rs1 rs2 imm w ht).mono fun e w' ⟨h, hk⟩ => ?_) (fun w => (Is_any n n1 n2 rd rs1 rs2 imm i0 i1 w).mono fun e w' ⟨⟨b, h, hi⟩, hk⟩ => ?_) (fun w => ?_) ht
      · rcases h with ⟨_, h⟩ | ⟨h, _⟩
        · exact ⟨h, hk⟩
        · exact absurd hb h
      · rw [hi.2 (hbi.1 hb)] at h
        exact ⟨h, hk⟩
      · exact rDecode_v (word n rd rs1 rs2 imm) n hr.1 (Int.le_of_lt_add_one hr.2) n1 n2 hb.1 n rd rs1 rs2 imm ⟨rfl, hb.2.2.1.symm, hb.2.2.2.1.symm, hb.2.2.2.2.1.symm, hb.2.2.2.2.2.symm⟩ w
    · refine walk_no n rd rs1 rs2 imm w (fun w _ ht => (Encode_any n n1 n2 rd rs1 rs2 imm w ht).mono fun e w' ⟨h, hk⟩ => ?_) (fun w => (Is_any n n1 n2 rd rs1 rs2 imm i0 i1 w).mono fun e w' ⟨⟨b, h, hi⟩, hk⟩ => ?_) ht
      · rcases h with ⟨h, _⟩ | ⟨_, h⟩
        · exact absurd h hb
        · exact ⟨h, hk⟩
      · have hbf : b = false := by
          rw [Bool.eq_false_iff]
          intro hbt
          exact hb (hbi.2 (hi.1 hbt))
        rw [hbf] at h
        exact ⟨h, hk⟩

section
variable {H : Type} {enc : TypeId × Value → H} {w : World} {base : Nat} {sp : Nat → Bool} {held : Bool}

theorem array5 {α : Type} {cs : Array α} (h : cs.size = 5) : ∃ c0 c1 c2 c3 c4, cs = #[c0, c1, c2, c3, c4] := by
  obtain ⟨l⟩ := cs
  match l, h with
  | [c0, c1, c2, c3, c4], _ => exact ⟨c0, c1, c2, c3, c4, rfl⟩

theorem open_ins {r : Reach} {b0 : Nat} {v : Value} {d : DataW H} {p : List MemPlace} (hv : Value.okWide Tryd.prog w r b0 24 v) (h : DataW.Trod enc Tryd.prog w base sp held 24 v d p) :
    ∃ op rd rs1 rs2 imm : Int, v = iv op rd rs1 rs2 imm ∧ d = .agg [.lit (.int .i64 op), .lit (.int .i64 rd), .lit (.int .i64 rs1), .lit (.int .i64 rs2), .lit (.int .i32 imm)] ∧ p = [] ∧
      (Lit.int .i64 op).wf = true ∧ (Lit.int .i64 rd).wf = true ∧ (Lit.int .i64 rs1).wf = true ∧ (Lit.int .i64 rs2).wf = true ∧ (Lit.int .i32 imm).wf = true := by
  obtain ⟨cs, rfl, hsz⟩ := okWide_struct Tryd.underlying24 hv
  obtain ⟨c0, c1, c2, c3, c4, rfl⟩ := array5 (hsz.trans (by kernel_rfl))
  obtain ⟨fuel, hf⟩ := h
  obtain ⟨xs, n, _, hx, hl, hlen, hall⟩ := DataW.trod_struct Tryd.underlying24 hf
  have k3 : Tryd.prog.cellsOf 3 = 1 := by kernel_rfl
  have k21 : Tryd.prog.cellsOf 21 = 1 := by kernel_rfl
  match xs, hlen with
  | [y0, y1, y2, y3, y4], _ =>
    have e0 := hall 0 _ rfl
    have e1 := hall 1 _ rfl
    have e2 := hall 2 _ rfl
    have e3 := hall 3 _ rfl
    have e4 := hall 4 _ rfl
    simp [k3, k21, Value.cells] at e0 e1 e2 e3 e4
    obtain ⟨z0, a0, b0, g0⟩ := DataW.trod_int Tryd.underlying3 e0
    obtain ⟨z1, a1, b1, g1⟩ := DataW.trod_int Tryd.underlying3 e1
    obtain ⟨z2, a2, b2, g2⟩ := DataW.trod_int Tryd.underlying3 e2
    obtain ⟨z3, a3, b3, g3⟩ := DataW.trod_int Tryd.underlying3 e3
    obtain ⟨z4, a4, b4, g4⟩ := DataW.trod_int Tryd.underlying21 e4
    simp only [List.cons.injEq, and_true] at a0 a1 a2 a3 a4
    subst a0 a1 a2 a3 a4 b0 b1 b2 b3 b4
    simp only [Prod.mk.injEq] at hx
    exact ⟨z0, z1, z2, z3, z4, rfl, by rw [hx.1]; rfl, by rw [hx.2]; rfl, g0, g1, g2, g3, g4⟩

theorem shut_ins {op rd rs1 rs2 imm : Int} (g0 : (Lit.int .i64 op).wf = true) (g1 : (Lit.int .i64 rd).wf = true) (g2 : (Lit.int .i64 rs1).wf = true) (g3 : (Lit.int .i64 rs2).wf = true) (g4 : (Lit.int .i32 imm).wf = true) :
    DataW.Trod enc Tryd.prog w base sp held 24 (iv op rd rs1 rs2 imm) (.agg [.lit (.int .i64 op), .lit (.int .i64 rd), .lit (.int .i64 rs1), .lit (.int .i64 rs2), .lit (.int .i32 imm)]) [] := by
  have k3 : Tryd.prog.cellsOf 3 = 1 := by kernel_rfl
  have k21 : Tryd.prog.cellsOf 21 = 1 := by kernel_rfl
  have hl : ([.int .i64 op, .int .i64 rd, .int .i64 rs1, .int .i64 rs2, .int .i32 imm] : List Value).length = Tryd.prog.cellsOf 24 := by kernel_rfl
  have i3 : ∀ z : Int, (Lit.int .i64 z).wf = true → DataW.trod enc Tryd.prog w base sp held 1 3 [.int .i64 z] = some (.lit (.int .i64 z), []) := fun z hz => by simp [DataW.trod, Tryd.underlying3, hz]
  have i21 : DataW.trod enc Tryd.prog w base sp held 1 21 [.int .i32 imm] = some (.lit (.int .i32 imm), []) := by simp [DataW.trod, Tryd.underlying21, g4]
  have ts := trod_struct_mk (enc := enc) (w := w) (base := base) (spare := sp) (held := held) (n := 1) (xs := [(.lit (.int .i64 op), []), (.lit (.int .i64 rd), []), (.lit (.int .i64 rs1), []), (.lit (.int .i64 rs2), []), (.lit (.int .i32 imm), [])]) Tryd.underlying24 hl (by simp [k3, k21, i3 _ g0, i3 _ g1, i3 _ g2, i3 _ g3, i21])
  exact ⟨2, by simpa [Value.cells] using ts⟩
end

theorem contract (H : Type) (enc : TypeId × Value → H) (W : World) (base : Nat) (args : Array Value) (ds gs : List (DataW H)) (before : List MemPlace)
    (hval : ∀ (j : Nat) t v, Tryd.f4.params[j]? = some t → args[j]? = some v → Value.okWide Tryd.prog W .any base t v)
    (hW : DataW.Whole enc Tryd.prog Tryd.f4.params.toList Rows.decodeEncodesSpec.vars false W args.toList ds gs before) (hL : laidMetH Tryd.prog Rows.decodeEncodesRow.laid W) :
    Calls Tryd.prog 4 args W fun e W' => ∃ v, e = .returned v ∧ Rows.decodeEncodesSpec.post enc Tryd.prog Tryd.f4 false true false false W args v W' := by
  have hW' := hW
  obtain ⟨p, q, hA0, hV, rfl, hfz, hnd⟩ := hW
  have hA : DataW.TrodAll enc Tryd.prog W 0 (fun _ => true) true Tryd.f4.params.toList args.toList ds p := hA0
  rw [Tryd.params4] at hA hval
  obtain ⟨v0, vs0, d0, ds0, p0, q0, hargs, rfl, rfl, h0, r0⟩ := trodAll_cons hA
  obtain ⟨rfl, rfl, rfl⟩ := trodAll_nil r0
  obtain rfl : args = #[v0] := by cases args; simp_all
  obtain ⟨rfl, rfl⟩ := trodVars_none hV
  obtain ⟨op, rd, rs1, rs2, imm, rfl, rfl, rfl, g0, g1, g2, g3, g4⟩ := open_ins (hval 0 24 v0 rfl rfl) h0
  clear hA0
  simp only [List.append_nil] at hW'
  refine (walk op rd rs1 rs2 imm g4 W (tab_of_laid hL)).mono fun e W' ⟨he, hb⟩ => ?_
  subst he
  exact ⟨_, rfl, post_of_below hW' (fun _ _ _ => trodAll_cons_mk (shut_bool Tryd.underlying4 _) trodAll_mk0) (fun _ => trodAll_cons_mk (shut_ins g0 g1 g2 g3 g4) trodAll_mk0) (fun _ => rfl) hb (ok_one (by kernel_rfl) rfl (okWide_bool_mk Tryd.underlying4 _))⟩

theorem laid_met (os : Os) : laidMet Tryd.prog Rows.decodeEncodesRow.laid (({ World.holding Tryd.prog os ⟨#[], #[], []⟩ with heap := (World.holding Tryd.prog os ⟨#[], #[], []⟩).heap.modify 0 fun | .cells _ t frozen => .cells (ftab.map fun z => Value.int .u32 z).toArray t frozen | o => o } : World).forCall (fun _ _ => 0) ⟨#[], #[iv 0 0 0 0 0], []⟩).memory :=
  laidMet_of_run' 8 (by kernel_rfl) (by kernel_rfl)
theorem reads (os : Os) {H : Type} (enc : TypeId × Value → H) : ∃ places, DataW.whole enc Tryd.prog (({ World.holding Tryd.prog os ⟨#[], #[], []⟩ with heap := (World.holding Tryd.prog os ⟨#[], #[], []⟩).heap.modify 0 fun | .cells _ t frozen => .cells (ftab.map fun z => Value.int .u32 z).toArray t frozen | o => o } : World).forCall (fun _ _ => 0) ⟨#[], #[iv 0 0 0 0 0], []⟩).memory Tryd.f4.params.toList Rows.decodeEncodesSpec.vars false #[iv 0 0 0 0 0].toList 8 = some ([.agg [.lit (.int .i64 0), .lit (.int .i64 0), .lit (.int .i64 0), .lit (.int .i64 0), .lit (.int .i32 0)]], [], places) :=
  ⟨[], by kernel_rfl⟩

set_option maxRecDepth 100000 in
theorem lifted (os : Os) (started : os.Started) (H : Type) (enc : TypeId × Value → H) (F : Stop.Interp) :
    ReturnsInHanded {} Tryd.checked os 4 .any ((OpenSpec.ofChange Rows.decodeEncodesSpec).preRow enc Tryd.prog Tryd.f4 Rows.decodeEncodesRow.domain false Rows.decodeEncodesRow.laid) (((OpenSpec.ofChange Rows.decodeEncodesSpec).at F).post enc Tryd.prog Tryd.f4 false true false false) := by
  obtain ⟨places, hx⟩ := reads os enc
  refine returnsInHanded_of_row (C := Tryd.checked) (s := OpenSpec.ofChange Rows.decodeEncodesSpec) own started (by kernel_rfl) Tryd.func4
    (witness_row_at (enc := enc) (C := Tryd.checked) false ({ World.holding Tryd.prog os ⟨#[], #[], []⟩ with heap := (World.holding Tryd.prog os ⟨#[], #[], []⟩).heap.modify 0 fun | .cells _ t frozen => .cells (ftab.map fun z => Value.int .u32 z).toArray t frozen | o => o } : World) #[iv 0 0 0 0 0] rfl (by kernel_rfl) (by kernel_rfl) (by kernel_rfl)
      (OpenSpec.preRow_of_cond 8 hx (by kernel_rfl) (fun k hk => by cases hk) (by kernel_rfl) (laid_met os))) ?_
  intro W base args ds gs before hval hW _ _ _ hL _ _
  exact contract H enc W base args ds gs before hval hW hL

theorem said : Rows.DecodeEncodesSaid :=
  OpenClaim.holds_of_cond 4 Tryd.f4 rfl rfl rfl rfl rfl rfl rfl ⟨rfl, rfl, rfl, rfl, rfl⟩ rfl rfl rfl rfl rfl (by kernel_rfl) Tryd.func4 (by kernel_rfl)
    (of_decide_eq_true (by kernel_rfl)) (by unfold Func.isWrapper; first | (rw [if_pos (by decide +kernel)]; kernel_rfl) | (rw [if_neg (by decide +kernel)]; exact ⟨rfl, rfl⟩))
    (fun os started H enc _ F => by rw [OpenClaim.pre_eq_preRow]; exact lifted os started H enc F)

theorem plain (f : FuncId) (fn : Func) (hf : Tryd.pinned.checked.prog.funcNamed "humpyard/humpyardlaw.DecodeEncodes" = some f) (hfn : Tryd.pinned.checked.prog.funcs[f]? = some fn) :
    false = Tryd.pinned.checked.prog.looks [] ∧ ∀ (j : Nat) t, fn.params[j]? = some t → Tryd.pinned.checked.prog.wantsStandIn t = false := by
  obtain rfl : f = 4 := Option.some.inj ((show Tryd.prog.funcNamed "humpyard/humpyardlaw.DecodeEncodes" = some 4 by kernel_rfl).symm.trans hf) |>.symm
  obtain rfl : fn = Tryd.f4 := (Option.some.inj (Tryd.func4.symm.trans hfn)).symm
  refine ⟨by kernel_rfl, fun j t ht => ?_⟩
  rw [Tryd.params4] at ht
  obtain rfl : t = 24 := by simpa using Array.mem_of_getElem? ht
  exact (show Tryd.prog.wantsStandIn 24 = false by kernel_rfl)

theorem card : Rows.DecodeEncodesCardSaid :=
  Claim7.holds_tied_plain_at .later [] _ _ _ _ said (fun _ h => by cases h) (by kernel_rfl) (fun _ h => by cases h) decodeEncodes_row_tie rfl ⟨rfl, rfl⟩ (by kernel_rfl) rfl plain (by kernel_rfl)
end Go.Proofs.YtkpkiojigbkghaaDoor.decodeEncodes
namespace Go.Proofs.YtkpkiojigbkghaaDoor
theorem decodeEncodes_holds : Rows.DecodeEncodesCardSaid := decodeEncodes.card
end Go.Proofs.YtkpkiojigbkghaaDoor
