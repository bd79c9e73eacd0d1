/- Loads and stores as a law's arguments. -/
import Derived.Test.YtpiohehijkpghabChecked
import Derived.Test.YtpiohehijkpghabOrdA
import Derived.ProofKit
import Derived.OpenShut
import Derived.SizedLaws
import Derived.ChangeSlices
import Derived.ChangeSame
import Derived.Deep.Slices
namespace Go.Proofs.Ytpiohehijkpghab
open Go.ChangeShapes Go.WideShapes Go.ChangeAt Go.RowKit Go.ChangeMaps
set_option linter.unusedVariables false
theorem plain_of_cellA {w : World} {a : Addr} {v : Value} (h : w.cell? a = some v) : a.spot = none := by
  unfold World.cell? at h
  split at h <;> simp_all
theorem array7 {α : Type} {cs : Array α} (h : cs.size = 7) : ∃ c0 c1 c2 c3 c4 c5 c6, cs = #[c0, c1, c2, c3, c4, c5, c6] := by
  obtain ⟨l⟩ := cs
  match l, h with
  | [c0, c1, c2, c3, c4, c5, c6], _ => exact ⟨c0, c1, c2, c3, c4, c5, c6, rfl⟩
section
variable {H : Type} {enc : TypeId × Value → H} {w : World} {base : Nat} {sp : Nat → Bool} {held : Bool} {fuel : Nat} {d : DataW H} {p : List MemPlace}
/-- How one is read. -/
abbrev adt (q : Ac) : DataW H := .agg [.lit (.int .i64 q.seq), .lit (.bool q.st), .lit (.bool q.kn), .lit (.int .u32 q.pl), .lit (.int .i64 q.many), .lit (.int .u32 q.data), .lit (.bool q.done)]
set_option maxRecDepth 20000 in
theorem acc_struct {cs : List Value} (h : DataW.trod enc Try.prog w base sp held fuel 76 cs = some (d, p)) :
    ∃ q : Ac, q.Ok ∧ (Lit.int .i64 q.seq).wf = true ∧ cs = cel q ∧ d = adt q ∧ p = [] := by
  obtain ⟨xs, n, _, hx, hl, hlen, hall⟩ := DataW.trod_struct Try.underlying76 h
  have k3 : Try.prog.cellsOf 3 = 1 := by kernel_rfl
  have k4 : Try.prog.cellsOf 4 = 1 := by kernel_rfl
  have k22 : Try.prog.cellsOf 22 = 1 := by kernel_rfl
  have k7 : Try.prog.cellsOf 76 = 7 := by kernel_rfl
  rw [k7] at hl
  match xs, hlen, cs, hl with
  | [y0, y1, y2, y3, y4, y5, y6], _, [c0, c1, c2, c3, c4, c5, c6], _ =>
    have e0 := hall 0 _ rfl
    have e1 := hall 1 _ rfl
    have e2 := hall 2 _ rfl
    have e3 := hall 3 _ rfl
    have e4 := hall 4 _ rfl
    have e5 := hall 5 _ rfl
    have e6 := hall 6 _ rfl
    simp [k3, k4, k22] at e0 e1 e2 e3 e4 e5 e6
    obtain ⟨z0, a0, b0, g0⟩ := DataW.trod_int Try.underlying3 e0
    obtain ⟨z1, a1, b1⟩ := DataW.trod_bool Try.underlying4 e1
    obtain ⟨z2, a2, b2⟩ := DataW.trod_bool Try.underlying4 e2
    obtain ⟨z3, a3, b3, g3⟩ := DataW.trod_int Try.underlying22 e3
    obtain ⟨z4, a4, b4, g4⟩ := DataW.trod_int Try.underlying3 e4
    obtain ⟨z5, a5, b5, g5⟩ := DataW.trod_int Try.underlying22 e5
    obtain ⟨z6, a6, b6⟩ := DataW.trod_bool Try.underlying4 e6
    simp only [List.cons.injEq, and_true] at a0 a1 a2 a3 a4 a5 a6
    subst a0 a1 a2 a3 a4 a5 a6 b0 b1 b2 b3 b4 b5 b6
    simp only [Prod.mk.injEq] at hx
    have u3 := bounds_u32 g3
    have u5 := bounds_u32 g5
    have u4 : -9223372036854775808 ≤ z4 ∧ z4 ≤ 9223372036854775807 := by
      have e1 : IntKind.i64.min = -9223372036854775808 := rfl
      have e2 : IntKind.i64.max = 9223372036854775807 := rfl
      simp only [Lit.wf, Bool.and_eq_true, decide_eq_true_eq] at g4
      omega
    exact ⟨⟨z0, z1, z2, z3, z4, z5, z6⟩, ⟨u3.1, u3.2, u5.1, u5.2, u4.1, u4.2⟩, g0, rfl, by rw [hx.1]; rfl, by rw [hx.2]; rfl⟩
set_option maxRecDepth 20000 in
theorem acc_shut {q : Ac} (ho : q.Ok) (g0 : (Lit.int .i64 q.seq).wf = true) : DataW.Trod enc Try.prog w base sp held 76 (acv q) (adt q) [] := by
  have k3 : Try.prog.cellsOf 3 = 1 := by kernel_rfl
  have k4 : Try.prog.cellsOf 4 = 1 := by kernel_rfl
  have k22 : Try.prog.cellsOf 22 = 1 := by kernel_rfl
  have hl : (cel q).length = Try.prog.cellsOf 76 := by kernel_rfl
  have i3 : ∀ z : Int, (Lit.int .i64 z).wf = true → DataW.trod enc Try.prog w base sp held 1 3 [.int .i64 z] = some (.lit (.int .i64 z), []) := fun z hz => by simp [DataW.trod, Try.underlying3, hz]
  have i22 : ∀ z : Int, (Lit.int .u32 z).wf = true → DataW.trod enc Try.prog w base sp held 1 22 [.int .u32 z] = some (.lit (.int .u32 z), []) := fun z hz => by simp [DataW.trod, Try.underlying22, hz]
  have i4 : ∀ b : Bool, DataW.trod enc Try.prog w base sp held 1 4 [.bool b] = some (.lit (.bool b), []) := fun b => by simp [DataW.trod, Try.underlying4]
  have g3 : (Lit.int .u32 q.pl).wf = true := by
    have e1 : IntKind.u32.min = 0 := rfl
    have e2 : IntKind.u32.max = 4294967295 := rfl
    have := ho.p0; have := ho.p1
    simp only [Lit.wf, Bool.and_eq_true, decide_eq_true_eq]; omega
  have g5 : (Lit.int .u32 q.data).wf = true := by
    have e1 : IntKind.u32.min = 0 := rfl
    have e2 : IntKind.u32.max = 4294967295 := rfl
    have := ho.d0; have := ho.d1
    simp only [Lit.wf, Bool.and_eq_true, decide_eq_true_eq]; omega
  have g4 : (Lit.int .i64 q.many).wf = true := by
    have e1 : IntKind.i64.min = -9223372036854775808 := rfl
    have e2 : IntKind.i64.max = 9223372036854775807 := rfl
    have := ho.m0; have := ho.m1
    simp only [Lit.wf, Bool.and_eq_true, decide_eq_true_eq]; omega
  have ts := trod_struct_mk (enc := enc) (w := w) (base := base) (spare := sp) (held := held) (n := 1) (xs := [(.lit (.int .i64 q.seq), []), (.lit (.bool q.st), []), (.lit (.bool q.kn), []), (.lit (.int .u32 q.pl), []), (.lit (.int .i64 q.many), []), (.lit (.int .u32 q.data), []), (.lit (.bool q.done), [])]) Try.underlying76 hl (by simp [cel, k3, k4, k22, i3 _ g0, i3 _ g4, i22 _ g3, i22 _ g5, i4])
  exact ⟨2, by simpa [Value.cells, cel] using ts⟩
set_option maxRecDepth 20000 in
theorem acc_open {r : Reach} {b0 : Nat} {v : Value} (hv : Value.okWide Try.prog w r b0 76 v) (h : DataW.Trod enc Try.prog w base sp held 76 v d p) :
    ∃ q : Ac, q.Ok ∧ (Lit.int .i64 q.seq).wf = true ∧ v = acv q ∧ d = adt q ∧ p = [] := by
  obtain ⟨cs, rfl, hsz⟩ := okWide_struct Try.underlying76 hv
  obtain ⟨fuel, hf⟩ := h
  obtain ⟨q, ho, hw, hcs, hd, hp⟩ := acc_struct hf
  refine ⟨q, ho, hw, ?_, hd, hp⟩
  have : cs.toList = cel q := by simpa [Value.cells] using hcs
  obtain ⟨l⟩ := cs
  simp at this
  subst this
  rfl
set_option maxRecDepth 20000 in
theorem accs_cells {a : Option Addr} {len cap : Nat} (h : DataW.trod enc Try.prog w base sp held fuel 68 [.slice a len cap] = some (d, p)) :
    (len = 0 ∨ ∃ xs ys, d = .slice xs ys ∧ len = xs.length) ∧ ∃ l : List Ac, LC w a len cap 7 (acs l) ∧ ∀ q ∈ l, q.Ok := by
  rcases Deep.open_slice Try.underlying68 h with ⟨hcs, _⟩ | ⟨x, l, c, m, n, D, Pl, hcs, hbb, hl, hm, hmm, hd, hall⟩
  · simp at hcs
    obtain ⟨rfl, rfl, rfl⟩ := hcs
    exact ⟨.inl rfl, [], lc_none _ _, fun q hq => by cases hq⟩
  · simp at hcs
    obtain ⟨rfl, rfl, rfl⟩ := hcs
    have hlm : len ≤ m := by rw [hmm]; split <;> omega
    have k7 : Try.prog.cellsOf 76 = 7 := by kernel_rfl
    have each : ∀ i, i < len → ∃ q : Ac, q.Ok ∧ ∀ j u, (cel q)[j]? = some u → w.cell? (x.add (i * 7 + j)) = some u := fun i hi => by
      obtain ⟨cs', h1, h2⟩ := hall i (by omega)
      rw [k7] at h1
      obtain ⟨_, hlen, hcell⟩ := World.cells?_some h1
      obtain ⟨q, ho, _, rfl, _, _⟩ := acc_struct h2
      refine ⟨q, ho, fun j u hj => ?_⟩
      have hj7 : j < 7 := by have := (List.getElem?_eq_some_iff.1 hj).1; rwa [hlen] at this
      have e := hcell j (by omega)
      rw [Deep.add_add] at e
      rw [e]
      exact hj
    have hinh : Inhabited Ac := ⟨⟨0, false, false, 0, 0, 0, false⟩⟩
    obtain ⟨f, hF⟩ := Deep.choose_lt each
    refine ⟨.inr ⟨_, _, (congrArg Prod.fst hd), by simp⟩, (List.range len).map f, ⟨by rw [acs_len]; simp, hl, hm, fun h => (nomatch h), acs_one _, fun y hy h0 => ?_⟩, fun q hq => ?_⟩
    · obtain rfl := Option.some.inj hy
      have h00 := (hF 0 h0).2 0 _ rfl
      have hsp := plain_of_cellA h00
      obtain ⟨b, o, s⟩ := x
      cases s with
      | some q => simp [Addr.add] at hsp
      | none =>
        refine ⟨b, o, rfl, World.block_lt_of_cell? _ _ (show w.cell? ⟨b, o + (0 * 7 + 0), none⟩ = some _ by have := h00; rwa [Addr.add_lit] at this), fun j u hj => ?_⟩
        obtain ⟨k, i, q, hk, rfl, hu⟩ := acs_split _ _ _ hj
        have hkl : k < len := by have := (List.getElem?_eq_some_iff.1 hk).1; simpa using this
        rw [List.getElem?_map, List.getElem?_range hkl] at hk
        simp at hk
        subst hk
        have := (hF k hkl).2 i u hu
        rwa [Addr.add_lit] at this
    · obtain ⟨i, hi, rfl⟩ := List.mem_map.1 hq
      exact (hF i (List.mem_range.1 hi)).1
end
end Go.Proofs.Ytpiohehijkpghab
