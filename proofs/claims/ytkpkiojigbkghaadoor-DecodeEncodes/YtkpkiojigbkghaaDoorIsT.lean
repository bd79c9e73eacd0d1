/- What the document's Is answers of an instruction: whether its form has room for its fields. -/
import Derived.Test.YtkpkiojigbkghaaDoorIsU
import Derived.Test.YtkpkiojigbkghaaDoorIsI
import Derived.Test.YtkpkiojigbkghaaDoorIsJ
import Derived.Test.YtkpkiojigbkghaaDoorIsB
import Derived.Test.YtkpkiojigbkghaaDoorIsH
import Derived.Test.YtkpkiojigbkghaaDoorDecS
namespace Go.Proofs.YtkpkiojigbkghaaDoor
open Go.RowKit
open Hy
set_option linter.unusedVariables false

theorem Is_no (op rd rs1 rs2 imm : Int) (h : ¬ (1 ≤ op ∧ op ≤ 48 ∧ 0 ≤ rd ∧ rd ≤ 31 ∧ 0 ≤ rs1 ∧ rs1 ≤ 31 ∧ 0 ≤ rs2 ∧ rs2 ≤ 31)) (w : World) :
    Calls Tryd.prog 9 #[iv op rd rs1 rs2 imm] w fun e w' => e = .returned (.bool false) ∧ Below w.heap.size w w' := by
  by_cases h0 : op < 1
  · exact Is_no0 op rd rs1 rs2 imm h0 w
  by_cases h1 : 48 < op
  · exact Is_no1 op rd rs1 rs2 imm h0 h1 w
  by_cases h2 : rd < 0
  · exact Is_no2 op rd rs1 rs2 imm h0 h1 h2 w
  by_cases h3 : 31 < rd
  · exact Is_no3 op rd rs1 rs2 imm h0 h1 h2 h3 w
  by_cases h4 : rs1 < 0
  · exact Is_no4 op rd rs1 rs2 imm h0 h1 h2 h3 h4 w
  by_cases h5 : 31 < rs1
  · exact Is_no5 op rd rs1 rs2 imm h0 h1 h2 h3 h4 h5 w
  by_cases h6 : rs2 < 0
  · exact Is_no6 op rd rs1 rs2 imm h0 h1 h2 h3 h4 h5 h6 w
  by_cases h7 : 31 < rs2
  · exact Is_no7 op rd rs1 rs2 imm h0 h1 h2 h3 h4 h5 h6 h7 w
  · exact absurd ⟨by omega, by omega, by omega, by omega, by omega, by omega, by omega, by omega⟩ h

theorem isf_regs (f : Nat) (f1 : 1 ≤ f) (f2 : f ≤ 8) (rd rs1 rs2 imm : Int) (h : isf f rd rs1 rs2 imm) : 0 ≤ rd ∧ rd ≤ 31 ∧ 0 ≤ rs1 ∧ rs1 ≤ 31 ∧ 0 ≤ rs2 ∧ rs2 ≤ 31 := by
  rcases (by omega : f = 1 ∨ f = 2 ∨ f = 3 ∨ f = 4 ∨ f = 5 ∨ f = 6 ∨ f = 7 ∨ f = 8) with rfl | rfl | rfl | rfl | rfl | rfl | rfl | rfl
  all_goals (simp [isf] at h; omega)

theorem kn_if : ∀ n, n < 49 → 1 ≤ n → kn n = (if n ≤ 2 then 1 else if n ≤ 3 then 2 else if n ≤ 4 then 3 else if n ≤ 10 then 5 else if n ≤ 15 then 3 else if n ≤ 18 then 6 else if n ≤ 24 then 3 else if n ≤ 27 then 4 else if n ≤ 45 then 7 else if n ≤ 46 then 3 else 8) := by decide
theorem kn_of (n : Nat) (hn : n < 49) (n1 : 1 ≤ n) : (n ≤ 2 ∧ kn n = 1) ∨ (n = 3 ∧ kn n = 2) ∨ (n = 4 ∧ kn n = 3) ∨ ((5 ≤ n ∧ n ≤ 10) ∧ kn n = 5) ∨ ((11 ≤ n ∧ n ≤ 15) ∧ kn n = 3) ∨ ((16 ≤ n ∧ n ≤ 18) ∧ kn n = 6) ∨ ((19 ≤ n ∧ n ≤ 24) ∧ kn n = 3) ∨ ((25 ≤ n ∧ n ≤ 27) ∧ kn n = 4) ∨ ((28 ≤ n ∧ n ≤ 45) ∧ kn n = 7) ∨ (n = 46 ∧ kn n = 3) ∨ (47 ≤ n ∧ kn n = 8) := by
  rw [kn_if n hn n1]
  repeat' split
  all_goals omega

theorem Is_any (n : Nat) (n1 : 1 ≤ n) (n2 : n ≤ 48) (rd rs1 rs2 imm : Int) (i0 : -2147483648 ≤ imm) (i1 : imm ≤ 2147483647) (w : World) :
    Calls Tryd.prog 9 #[iv n rd rs1 rs2 imm] w fun e w' => (∃ b, e = .returned (.bool b) ∧ (b = true ↔ isf (kn n) rd rs1 rs2 imm)) ∧ Below w.heap.size w w' := by
  obtain ⟨k9, _, k1⟩ := kn_lt n (by omega)
  by_cases h : 0 ≤ rd ∧ rd ≤ 31 ∧ 0 ≤ rs1 ∧ rs1 ≤ 31 ∧ 0 ≤ rs2 ∧ rs2 ≤ 31
  · obtain ⟨a0, a1, b0, b1, c0, c1⟩ := h
    rcases kn_of n (by omega) n1 with ⟨g, e⟩ | ⟨g, e⟩ | ⟨g, e⟩ | ⟨g, e⟩ | ⟨g, e⟩ | ⟨g, e⟩ | ⟨g, e⟩ | ⟨g, e⟩ | ⟨g, e⟩ | ⟨g, e⟩ | ⟨g, e⟩
    all_goals rw [e]
    · exact Is_U n rd rs1 rs2 imm (by omega) (by omega) a0 a1 b0 b1 c0 c1 i0 i1 w
    · exact Is_J n rd rs1 rs2 imm (by omega) (by omega) a0 a1 b0 b1 c0 c1 i0 i1 w
    · exact Is_I0 n rd rs1 rs2 imm (by omega) (by omega) a0 a1 b0 b1 c0 c1 i0 i1 w
    · exact Is_B n rd rs1 rs2 imm (by omega) (by omega) a0 a1 b0 b1 c0 c1 i0 i1 w
    · exact Is_I1 n rd rs1 rs2 imm (by omega) (by omega) a0 a1 b0 b1 c0 c1 i0 i1 w
    · exact Is_S n rd rs1 rs2 imm (by omega) (by omega) a0 a1 b0 b1 c0 c1 i0 i1 w
    · exact Is_I2 n rd rs1 rs2 imm (by omega) (by omega) a0 a1 b0 b1 c0 c1 i0 i1 w
    · exact Is_H n rd rs1 rs2 imm (by omega) (by omega) a0 a1 b0 b1 c0 c1 i0 i1 w
    · exact Is_R n rd rs1 rs2 imm (by omega) (by omega) a0 a1 b0 b1 c0 c1 i0 i1 w
    · exact Is_I3 n rd rs1 rs2 imm (by omega) (by omega) a0 a1 b0 b1 c0 c1 i0 i1 w
    · exact Is_E n rd rs1 rs2 imm (by omega) (by omega) a0 a1 b0 b1 c0 c1 i0 i1 w
  · refine (Is_no n rd rs1 rs2 imm (fun h' => h ⟨h'.2.2.1, h'.2.2.2.1, h'.2.2.2.2.1, h'.2.2.2.2.2.1, h'.2.2.2.2.2.2.1, h'.2.2.2.2.2.2.2⟩) w).mono fun e w' ⟨he, hb⟩ => ?_
    refine ⟨⟨false, he, ?_⟩, hb⟩
    constructor
    · intro h'; cases h'
    · intro h'; exact absurd (isf_regs (kn n) (k1 n1) (by omega) rd rs1 rs2 imm h') h

/-- The form has room for the fields just where the word that is written is read again. -/
theorem back_isf (n : Nat) (n1 : 1 ≤ n) (n2 : n ≤ 48) (rd rs1 rs2 imm : Int) (i0 : -2147483648 ≤ imm) (i1 : imm ≤ 2147483647) :
    back (word n rd rs1 rs2 imm) n rd rs1 rs2 imm ↔ isf (kn n) rd rs1 rs2 imm := by
  obtain ⟨k9, _, k1⟩ := kn_lt n (by omega)
  have hr := bits_rng .or (kb n) (wb (fm (kn n)) rd rs1 rs2 imm 4)
  constructor
  · rintro ⟨_, _, r⟩
    exact reads_isf (kn n) (k1 n1) (by omega) (word n rd rs1 rs2 imm) rd rs1 rs2 imm hr.1 hr.2 r
  · intro h
    obtain ⟨hh, r⟩ := isf_fits n n1 n2 rd rs1 rs2 imm (word n rd rs1 rs2 imm) i0 i1 rfl h
    refine ⟨hh, fun k k1' kn' => ?_, r⟩
    rw [Bool.eq_false_iff]
    intro hk
    have := hit_one n k n1 n2 k1' (by omega) (word n rd rs1 rs2 imm) hr.1 hr.2 hh hk
    omega
end Go.Proofs.YtkpkiojigbkghaaDoor
