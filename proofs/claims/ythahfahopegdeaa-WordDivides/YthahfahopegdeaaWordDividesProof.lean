/- Proved: for every two words a and b, word.Alu's quotient times b plus what is left over is a again, signed and not, what is left over is below b, and by a b of 0 the answers are the greatest word and a; under no condition. -/
import Derived.Test.YthahfahopegdeaaRows
import Derived.Test.YthahfahopegdeaaWord
import Derived.WalkKit
import Derived.ProofKit
import Derived.OpenShut
namespace Go.Proofs.Ythahfahopegdeaa.wordDivides
open Go.ChangeShapes Go.WideShapes Go.ChangeAt Go.RowKit
open Hy
set_option linter.unusedVariables false

theorem own : ownKnob Try.prog.godebug = none := by kernel_rfl

theorem back_mod (A b B : Int) : ((A % 4294967296 * b) % 4294967296 + B % 4294967296) % 4294967296 = (A * b + B) % 4294967296 := by
  rw [← Int.add_emod, Int.add_emod, Int.mul_emod, Int.emod_emod_of_dvd _ (Int.dvd_refl _), ← Int.mul_emod, ← Int.add_emod]

theorem unsigned_back (a b : Int) (a0 : 0 ≤ a) (a1 : a ≤ 4294967295) (b0 : 0 ≤ b) (b1 : b ≤ 4294967295) (hb : ¬ b = 0) :
    alu 28 (alu 38 (alu 43 a b) b) (alu 45 a b) = a := by
  show ((alu 43 a b * b) % 4294967296 + alu 45 a b) % 4294967296 = a
  have e1 : alu 43 a b = a / b := by simp [alu, hb]
  have e2 : alu 45 a b = a % b := by simp [alu, hb]
  rw [e1, e2]
  have h := Int.mul_ediv_add_emod a b
  rw [Int.mul_comm] at h
  have := Int.emod_nonneg a hb
  generalize a / b * b = p at *
  generalize a % b = q at *
  omega

theorem signed_back (a b : Int) (a0 : 0 ≤ a) (a1 : a ≤ 4294967295) (b0 : 0 ≤ b) (b1 : b ≤ 4294967295) (hb : ¬ b = 0) :
    alu 28 (alu 38 (alu 42 a b) b) (alu 44 a b) = a := by
  show ((alu 42 a b * b) % 4294967296 + alu 44 a b) % 4294967296 = a
  have e1 : alu 42 a b = (sg a).tdiv (sg b) % 4294967296 := by simp [alu, hb]
  have e2 : alu 44 a b = (sg a).tmod (sg b) % 4294967296 := by simp [alu, hb]
  rw [e1, e2, back_mod]
  have h : ((sg a).tdiv (sg b) * b) % 4294967296 = ((sg a).tdiv (sg b) * sg b) % 4294967296 := by
    rw [Int.mul_emod, Int.mul_emod _ (sg b), sg_mod b b0 b1, Int.emod_eq_of_lt b0 (by omega)]
  rw [Int.add_emod, h, ← Int.add_emod]
  have g := Int.mul_tdiv_add_tmod (sg a) (sg b)
  rw [Int.mul_comm] at g
  rw [g, sg_mod a a0 a1]

theorem rest_below (a b : Int) (a0 : 0 ≤ a) (b0 : 0 ≤ b) (hb : ¬ b = 0) : alu 45 a b < b := by
  have e2 : alu 45 a b = a % b := by simp [alu, hb]
  rw [e2]; exact Int.emod_lt_of_pos a (by omega)

theorem walk (a0 : Int) (a1 : Int) (w0 : (Lit.int .u32 a0).wf = true) (w1 : (Lit.int .u32 a1).wf = true) (w : World) :
    Calls Try.prog 4 #[.int .u32 a0, .int .u32 a1] w fun e w' => e = .returned (.bool true) ∧ Grown w w' := by
  obtain ⟨ha0, ha1⟩ : 0 ≤ a0 ∧ a0 ≤ 4294967295 := bounds_u32 w0
  obtain ⟨hb0, hb1⟩ : 0 ≤ a1 ∧ a1 ≤ 4294967295 := bounds_u32 w1
  clear w0 w1
  have r43 := alu_range 43 a0 a1 ha0 ha1 hb0 hb1
  have r45 := alu_range 45 a0 a1 ha0 ha1 hb0 hb1
  have r42 := alu_range 42 a0 a1 ha0 ha1 hb0 hb1
  have r44 := alu_range 44 a0 a1 ha0 ha1 hb0 hb1
  have rq := alu_range 38 (alu 43 a0 a1) a1 r43.1 r43.2 hb0 hb1
  have rs := alu_range 38 (alu 42 a0 a1) a1 r42.1 r42.2 hb0 hb1
  by_cases hb : a1 = 0
  · subst hb
    have e43 : alu 43 a0 0 = 4294967295 := rfl
    have e42 : alu 42 a0 0 = 4294967295 := rfl
    have e45 : alu 45 a0 0 = a0 := rfl
    have e44 : alu 44 a0 0 = a0 := rfl
    go_enter Try.func4, Try.ntmps4
    go_wp2_with (go_at_call 5; refine (Alu_any _ _ _ ?_ ?_ ?_ ?_ _).mono ?_; (iterate 4 omega); rintro e w' ⟨rfl, rfl⟩)

    go_ret
    exact ⟨rfl, Grown.refl _⟩
  · have hb' : (a1 == 0) = false := by simpa using hb
    have eu : (alu 28 (alu 38 (alu 43 a0 a1) a1) (alu 45 a0 a1) == a0) = true := by simpa using unsigned_back a0 a1 ha0 ha1 hb0 hb1 hb
    have es : (alu 28 (alu 38 (alu 42 a0 a1) a1) (alu 44 a0 a1) == a0) = true := by simpa using signed_back a0 a1 ha0 ha1 hb0 hb1 hb
    have hr := rest_below a0 a1 ha0 hb0 hb
    have el : (alu 32 (alu 45 a0 a1) a1 == 1) = true := by simp [alu, hb] at hr ⊢; exact hr
    go_enter Try.func4, Try.ntmps4
    go_wp2_with (go_at_call 5; refine (Alu_any _ _ _ ?_ ?_ ?_ ?_ _).mono ?_; (iterate 4 omega); rintro e w' ⟨rfl, rfl⟩)

    go_ret
    exact ⟨rfl, Grown.refl _⟩
set_option maxRecDepth 100000 in
theorem lifted (os : Os) (started : os.Started) (H : Type) (enc : TypeId × Value → H) :
    ReturnsInHanded {} Try.checked os 4 .any (Rows.wordDividesSpec.pre6 enc Try.prog Try.f4 Rows.wordDividesRow.domain false) (Rows.wordDividesSpec.post enc Try.prog Try.f4 false true false false) := by
  refine returnsInHanded_of_change (C := Try.checked) own started (by kernel_rfl) Try.func4
    (ChangeSpec.witness6 (enc := enc) (C := Try.checked) false ⟨#[], #[.int .u32 0, .int .u32 0], []⟩ 8 (by kernel_rfl) (by kernel_rfl) (by kernel_rfl) (by kernel_rfl)) ?_
  intro W base args ds gs before hval0 hW hcnd _
  have hval : ∀ (j : Nat) t v, Try.f4.params[j]? = some t → args[j]? = some v → Value.okWide Try.prog W .any base t v := hval0
  have hW' := hW
  obtain ⟨p, q, hA0, hV, rfl, hfz, hnd⟩ := hW
  have hA : DataW.TrodAll enc Try.prog W 0 (fun _ => true) true Try.f4.params.toList args.toList ds p := hA0
  rw [Try.params4] at hA hval
  obtain ⟨v0, vs0, d0, ds0, p0, q0, hargs, rfl, rfl, h0, r0⟩ := trodAll_cons hA
  obtain ⟨v1, vs1, d1, ds1, p1, q1, rfl, rfl, rfl, h1, r1⟩ := trodAll_cons r0
  obtain ⟨rfl, rfl, rfl⟩ := trodAll_nil r1
  obtain rfl : args = #[v0, v1] := by cases args; simp_all
  obtain ⟨rfl, rfl⟩ := trodVars_none hV
  obtain ⟨a0, rfl, rfl, rfl, w0⟩ := open_int Try.underlying22 (hval 0 22 v0 rfl rfl) h0
  obtain ⟨a1, rfl, rfl, rfl, w1⟩ := open_int Try.underlying22 (hval 1 22 v1 rfl rfl) h1
  clear hA0 hval0
  simp only [List.append_nil] at hW'
  refine (walk a0 a1 w0 w1 W).mono fun e W' ⟨he, hg⟩ => ?_
  subst he
  exact ⟨_, rfl, post_of_same (pa := []) (pv := []) hW' (fun _ _ _ => (trodAll_cons_mk (shut_bool Try.underlying4 _) trodAll_mk0)) (fun sp _ => (trodAll_cons_mk (shut_int Try.underlying22 w0) (trodAll_cons_mk (shut_int Try.underlying22 w1) trodAll_mk0))) (fun _ _ => rfl) rfl
    (hg.frame _) hg.2.1 (ok_one (by kernel_rfl) rfl (okWide_bool_mk Try.underlying4 _))⟩

theorem over : Rows.wordDividesRow.holds Try.pinned (OpenSpec.ofChange Rows.wordDividesSpec) :=
  OpenClaim.holds_of_wide 4 Try.f4 rfl rfl rfl rfl rfl rfl rfl ⟨rfl, rfl, rfl, rfl, rfl⟩ rfl rfl rfl rfl rfl (by kernel_rfl) Try.func4 (by kernel_rfl)
    (of_decide_eq_true (by kernel_rfl)) (by unfold Func.isWrapper; first | (rw [if_pos (by decide +kernel)]; kernel_rfl) | (rw [if_neg (by decide +kernel)]; exact ⟨rfl, rfl⟩))
    (fun os started H enc _ => lifted os started H enc)

/-- ████ THE STATEMENT ████ -/
theorem proved : Rows.WordDividesSaid :=
  over
end Go.Proofs.Ythahfahopegdeaa.wordDivides
namespace Go.Proofs.Ythahfahopegdeaa
theorem wordDivides_holds : Rows.WordDividesSaid := wordDivides.proved
end Go.Proofs.Ythahfahopegdeaa
