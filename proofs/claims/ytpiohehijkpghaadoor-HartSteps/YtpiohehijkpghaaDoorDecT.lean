/- From the row's list to the table's cells: the variable holds the forms as the program's text lays them. -/
import Derived.Test.YtpiohehijkpghaaDoorDecB
import Derived.OpenShut
import Derived.ProofKit
import Derived.Lib.LaidTab
import Derived.Deep.DeepHandedRow
namespace Go.Proofs.YtpiohehijkpghaaDoor
open Go.RowKit
open Hy
set_option linter.unusedVariables false

def dAt (d : DataW Unit) (i : Nat) : DataW Unit := match d with
  | .agg l => l.getD i .nil
  | _ => .nil
def dInt (d : DataW Unit) : Int := match d with
  | .lit (.int _ z) => z
  | _ => 0

section
variable {enc : TypeId × Value → Unit} {w : World} {base : Nat} {sp : Nat → Bool} {held : Bool} {fuel : Nat} {cs : List Value} {d : DataW Unit} {p : List MemPlace}

theorem arr_at {t e : TypeId} {n : Nat} (ht : Tryd.prog.underlying t = some (.array n e)) (h : DataW.trod enc Tryd.prog w base sp held fuel t cs = some (d, p)) (i : Nat) (hi : i < n) :
    ∃ m q, DataW.trod enc Tryd.prog w base sp held m e ((cs.drop (i * Tryd.prog.cellsOf e)).take (Tryd.prog.cellsOf e)) = some (dAt d i, q) := by
  obtain ⟨xs, m, _, hx, _, hn, hall⟩ := DataW.trod_array ht h
  have hd : d = .agg (xs.map (·.1)) := congrArg Prod.fst hx
  have hlt : i < xs.length := by omega
  refine ⟨m, xs[i].2, ?_⟩
  rw [hall i hi, List.getElem?_eq_getElem hlt, hd]
  simp [dAt, hlt]

theorem str_at {t : TypeId} {fs : Array Field} (ht : Tryd.prog.underlying t = some (.struct fs)) (h : DataW.trod enc Tryd.prog w base sp held fuel t cs = some (d, p)) (i : Nat) (f : Field) (hi : fs[i]? = some f) :
    ∃ m q, DataW.trod enc Tryd.prog w base sp held m f.type ((cs.drop f.offset).take (Tryd.prog.cellsOf f.type)) = some (dAt d i, q) := by
  obtain ⟨xs, m, _, hx, _, hn, hall⟩ := DataW.trod_struct ht h
  have hd : d = .agg (xs.map (·.1)) := congrArg Prod.fst hx
  have hlt : i < xs.length := by
    have := (Array.getElem?_eq_some_iff.1 hi).1
    omega
  refine ⟨m, xs[i].2, ?_⟩
  rw [hall i f hi, List.getElem?_eq_getElem hlt, hd]
  simp [dAt, hlt]

theorem int_at {o : Nat} (h : DataW.trod enc Tryd.prog w base sp held fuel 22 ((cs.drop o).take 1) = some (d, p)) : cs[o]? = some (.int .u32 (dInt d)) := by
  obtain ⟨z, hc, hx, _⟩ := DataW.trod_int Tryd.underlying22 h
  have hd : d = .lit (.int .u32 z) := congrArg Prod.fst hx
  have := congrArg (·[0]?) hc
  simp [List.getElem?_drop] at this
  rw [this, hd]
  rfl

theorem part_get {l : List Value} {o n j : Nat} (hj : j < n) : ((l.drop o).take n)[j]? = l[o + j]? := by
  simp [List.getElem?_drop, hj]

theorem c40 : Tryd.prog.cellsOf 65 = 17 := by kernel_rfl
theorem c38 : Tryd.prog.cellsOf 63 = 12 := by kernel_rfl
theorem c37 : Tryd.prog.cellsOf 62 = 3 := by kernel_rfl
theorem c22 : Tryd.prog.cellsOf 22 = 1 := by kernel_rfl

set_option maxRecDepth 100000 in
theorem plain_at (h : DataW.trod enc Tryd.prog w base sp held fuel 66 cs = some (d, p)) (f : Nat) (hf : f < 9) (j : Nat) (hj : j < 5) :
    cs[f * 17 + j]? = some (.int .u32 (dInt (dAt (dAt d f) j))) := by
  obtain ⟨m, q, h1⟩ := arr_at Tryd.underlying66 h f hf
  rw [c40] at h1
  have key : ∀ fl : Field, fl.type = 22 → fl.offset = j → (match Tryd.prog.underlying 65 with | some (.struct fs) => fs[j]? | _ => none) = some fl → cs[f * 17 + j]? = some (.int .u32 (dInt (dAt (dAt d f) j))) := by
    intro fl t1 t2 t3
    rw [Tryd.underlying65] at t3
    obtain ⟨m2, q2, h2⟩ := str_at Tryd.underlying65 h1 j fl t3
    rw [t1, t2, c22] at h2
    have := int_at h2
    rwa [part_get (by omega)] at this
  rcases (by omega : j = 0 ∨ j = 1 ∨ j = 2 ∨ j = 3 ∨ j = 4) with rfl | rfl | rfl | rfl | rfl
  all_goals (refine key _ ?_ ?_ (by rw [Tryd.underlying65]; rfl) <;> rfl)

set_option maxRecDepth 100000 in
theorem deep_at (h : DataW.trod enc Tryd.prog w base sp held fuel 66 cs = some (d, p)) (f : Nat) (hf : f < 9) (k : Nat) (hk : k < 4) (l : Nat) (hl : l < 3) :
    cs[f * 17 + (5 + (k * 3 + l))]? = some (.int .u32 (dInt (dAt (dAt (dAt (dAt d f) 5) k) l))) := by
  obtain ⟨m, q, h1⟩ := arr_at Tryd.underlying66 h f hf
  rw [c40] at h1
  obtain ⟨m2, q2, h2⟩ := str_at Tryd.underlying65 h1 5 _ rfl
  have h2' : DataW.trod enc Tryd.prog w base sp held m2 63 ((((cs.drop (f * 17)).take 17).drop 5).take 12) = some (dAt (dAt d f) 5, q2) := by rw [← c38]; exact h2
  obtain ⟨m3, q3, h3⟩ := arr_at Tryd.underlying63 h2' k hk
  rw [c37] at h3
  have key : ∀ fl : Field, fl.type = 22 → fl.offset = l → (match Tryd.prog.underlying 62 with | some (.struct fs) => fs[l]? | _ => none) = some fl → cs[f * 17 + (5 + (k * 3 + l))]? = some (.int .u32 (dInt (dAt (dAt (dAt (dAt d f) 5) k) l))) := by
    intro fl t1 t2 t3
    rw [Tryd.underlying62] at t3
    obtain ⟨m4, q4, h4⟩ := str_at Tryd.underlying62 h3 l fl t3
    rw [t1, t2, c22] at h4
    have := int_at h4
    rwa [part_get (by omega), part_get (by omega), part_get (by omega)] at this
  rcases (by omega : l = 0 ∨ l = 1 ∨ l = 2) with rfl | rfl | rfl
  all_goals (refine key _ ?_ ?_ (by rw [Tryd.underlying62]; rfl) <;> rfl)
end

abbrev forms0 : DataW Unit := Rows.laid_humpyard_decode_forms
theorem plain_val : ∀ f, f < 9 → ∀ j, j < 5 → dInt (dAt (dAt forms0 f) j) = ftab.getD (f * 17 + j) 0 := by decide
theorem deep_val : ∀ f, f < 9 → ∀ k, k < 4 → ∀ l, l < 3 → dInt (dAt (dAt (dAt (dAt forms0 f) 5) k) l) = ftab.getD (f * 17 + (5 + (k * 3 + l))) 0 := by decide

theorem gTab : Tryd.prog.globalNamed "humpyard/decode.forms" = some 0 := by kernel_rfl
theorem gTabType : (Tryd.prog.globals[0]?).map (·.type) = some 66 := by kernel_rfl

theorem tab_of_laid {W : World} (h : laidMet Tryd.prog [("humpyard/decode.forms", forms0)] W) : Tab W := by
  obtain ⟨ps, ⟨g', t', cs, fuel, p, q, hg', ht', hvar, hd, _, _⟩, _⟩ := h
  obtain rfl := Option.some.inj (gTab.symm.trans hg')
  obtain rfl := Option.some.inj (gTabType.symm.trans ht')
  intro i hi
  rw [World.var?_cell gTab hvar i]
  have hr : i % 17 < 17 := Nat.mod_lt _ (by omega)
  have hm : i = i / 17 * 17 + i % 17 := by omega
  have hf : i / 17 < 9 := by omega
  by_cases h5 : i % 17 < 5
  · have h1 := plain_at hd (i / 17) hf (i % 17) h5
    rw [plain_val _ hf _ h5, ← hm] at h1
    simpa using h1
  · have e : 5 + ((i % 17 - 5) / 3 * 3 + (i % 17 - 5) % 3) = i % 17 := by omega
    have h1 := deep_at hd (i / 17) hf ((i % 17 - 5) / 3) (by omega) ((i % 17 - 5) % 3) (by omega)
    rw [deep_val _ hf _ (by omega) _ (by omega), e, ← hm] at h1
    simpa using h1

/-- What a law's row asks behind the call, where the arguments are plain numbers and the call has made memory alone. -/
theorem post_of_below {H : Type} {enc : TypeId × Value → H} {P : Program} {f : Func} {s : ChangeSpec} {apart fresh handsOn again : Bool} {W W' : World} {args : Array Value} {v : Value} {ds gs : List (DataW H)}
    (hW : DataW.Whole enc P f.params.toList s.vars apart W args.toList ds gs [])
    (hres : ∀ (b : Nat) (sp : Nat → Bool) (hd : Bool), DataW.TrodAll enc P W' b sp hd f.resultTypes.toList (v.resultList f.resultTypes.size) (s.fn H (ds ++ gs)).results [])
    (hargs : ∀ sp : Nat → Bool, DataW.TrodAll enc P W' 0 sp true f.params.toList args.toList (s.fn H (ds ++ gs)).args [])
    (hvars : ∀ sp : Nat → Bool, DataW.TrodVars enc P W' sp s.vars (s.fn H (ds ++ gs)).vars [])
    (hb : Below W.heap.size W W')
    (hok : ∀ (j : Nat) (t : TypeId) (r : Value), f.resultTypes[j]? = some t → (v.resultList f.resultTypes.size)[j]? = some r → Value.okWide P W' .any 0 t r) :
    s.post enc P f apart fresh handsOn again W args v W' := by
  refine ⟨ds, gs, [], [], [], [], hW, hres _ _ _, hargs _, hvars _, hb.frame _, fun _ => ?_⟩
  refine ⟨hok, _, _, [], ⟨[], [], Go.ChangeShapes.trodAll_append (hargs _) (hres _ _ _), hvars _, rfl, ?_, ?_⟩, ?_⟩
  · intro b off hp
    cases hp
  · intro _
    exact List.nodup_nil
  · intro p hp
    cases hp
end Go.Proofs.YtpiohehijkpghaaDoor
