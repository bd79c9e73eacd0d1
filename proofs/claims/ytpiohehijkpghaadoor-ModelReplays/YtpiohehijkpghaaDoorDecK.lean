/- What kinds answers: how each instruction is told. -/
import Derived.Test.YtpiohehijkpghaaDoorDecW
import Derived.Deep.WholeRow
namespace Go.Proofs.YtpiohehijkpghaaDoor
open Go.RowKit
open Hy
set_option linter.unusedVariables false

/-- The number in a cell of a list of cells. -/
def pv (cs : Array Value) (j : Nat) : Int := match cs[j]? with
  | some (.int .u32 v) => v
  | _ => 0

/-- So many cells, each with a word. -/
def chk (cs : Array Value) : Nat → Bool
  | 0 => true
  | n + 1 => (match cs[n]? with
    | some (.int .u32 _) => true
    | _ => false) && chk cs n

theorem chk_at (cs : Array Value) : ∀ n, chk cs n = true → ∀ j, j < n → cs[j]? = some (.int .u32 (pv cs j))
  | 0, _, j, h => by omega
  | n + 1, hk, j, h => by
    simp only [chk, Bool.and_eq_true] at hk
    by_cases e : j = n
    · subst e
      have h1 := hk.1
      unfold pv
      split at h1
      · rename_i v hv; rw [hv]
      · cases h1
    · exact chk_at cs n hk.2 j (by omega)

theorem below_over {w w2 : World} {o : Obj} (k : Below (w.alloc o).heap.size (w.alloc o) w2) : Below w.heap.size w w2 :=
  ((Below.refl _ _).alloc (Nat.le_refl _) o).trans (k.mono (by simp))

theorem toldBy_c (f : Int) (cs : Array Value) (n : Nat) (t : TypeId) (g : Nat) (w : World) (hg : g = w.heap.size) (hn : n ≤ 3) (hk : chk cs n = true) :
    Calls Tryd.prog 48 #[.int .i64 f, .slice (some ⟨g, 0, none⟩) n n] (w.alloc (.cells cs t)) fun e w' => e = .returned (.agg #[.int .i64 f, .int .u32 (tb (pv cs) n)]) ∧ Below w.heap.size w w' := by
  subst hg
  exact (toldBy_any n hn f _ (pv cs) _ (by simp) (by
    intro j hj
    rw [World.cell?_alloc_at _ _ _ _ rfl]
    exact chk_at cs n hk j hj)).mono fun e w' ⟨he, hb⟩ => ⟨he, below_over hb⟩

def zeros : List Value → Nat → List Value
  | l, 0 => l
  | l, n + 1 => .int .i64 0 :: .int .u32 0 :: zeros l n
def zero34 : Array Value := (zeros [] 49).toArray

/-- The cells of what kinds answers. -/
def kcells : Nat → List Value
  | 0 => []
  | n + 1 => kcells n ++ [.int .i64 (kf n), .int .u32 (kb n)]
def kc : Array Value := (kcells 49).toArray

theorem upon_conv {P : Program} {o : Oper} {a : Act} {K : Act → World → Prop} {Q : Exit → Act → World → Prop} {r : Result Next} (r' : Result Next) (h : r = r') (k : o.upon P a K Q r') : o.upon P a K Q r := h ▸ k

theorem info34 : (Tryd.prog.info? 59).map (fun i => (i.zero, i.size)) = some (some (.agg zero34), 98) := by kernel_rfl

theorem size34 : (Tryd.prog.info? 59).map (·.size) = some kc.size := by kernel_rfl
theorem kc_ones : kc.all (·.oneCell') = true := by kernel_rfl
theorem kc_size : kc.size = 98 := by kernel_rfl
theorem zero_size : zero34.size = kc.size := by kernel_rfl

theorem store34 {w w' : World} (hb : Below (w.heap.size + 1) (w.alloc (.cells zero34 59)) w') :
    (storeCells ⟨w.heap.size, 0, none⟩ kc.toList).run Tryd.prog w' = .ok () (w'.setRow w.heap.size kc) := by
  have hg : w'.heap[w.heap.size]? = some (.cells zero34 59 (0, 0)) := (hb.block _ (by omega)).trans (heap_alloc_last _ _)
  have := run_storeCells_from (P := Tryd.prog) w.heap.size 59 kc.toList 0 zero34 w' hg (by rw [zero_size]; simp) (fun v hv => (Array.all_eq_true_iff_forall_mem.1 kc_ones) v (by simpa using hv))
  rw [List.take_zero, List.nil_append, Array.toArray_toList] at this
  exact this

theorem load34 {w w' : World} (hb : Below (w.heap.size + 1) (w.alloc (.cells zero34 59)) w') :
    (loadVar 59 ⟨w.heap.size, 0, none⟩).run Tryd.prog (w'.setRow w.heap.size kc) = .ok (.agg kc) (w'.setRow w.heap.size kc) := by
  have hg : w'.heap[w.heap.size]? = some (.cells zero34 59 (0, 0)) := (hb.block _ (by omega)).trans (heap_alloc_last _ _)
  exact run_loadVar_row _ _ 59 59 kc (0, 0) _ (setRow_heap w' _ _ kc 59 (0, 0) hg) Tryd.underlying59 rfl size34

theorem setRow_below {w w' : World} {o : Obj} {c : Array Value} (hb : Below (w.heap.size + 1) (w.alloc o) w') : Below w.heap.size w (w'.setRow w.heap.size c) := by
  have h := ((Below.refl w.heap.size w).alloc (Nat.le_refl _) o).trans (hb.mono (by omega))
  exact ⟨h.os, h.tape, h.output, by simpa using h.size, fun k hk => (setRow_other _ _ _ _ (by omega)).trans (h.block k hk)⟩

set_option maxRecDepth 100000 in
set_option maxHeartbeats 4000000 in
theorem kinds_any (w : World) : Calls Tryd.prog 25 #[] w fun e w' => e = .returned (.agg kc) ∧ Below w.heap.size w w' := by
  have hb : Below (w.heap.size + 1) (w.alloc (.cells zero34 59)) (w.alloc (.cells zero34 59)) := Below.refl _ _
  have hB : w.heap.size + 1 ≤ (w.alloc (.cells zero34 59)).heap.size := by simp
  go_enter Tryd.func25, Tryd.ntmps25
  go_wp2_with fail
  rw [show Tryd.zeroCells59 = zero34 from by kernel_rfl]
  go_wp2_with (go_at_call 48; refine (toldBy_c _ _ _ _ _ _ ?_ ?_ ?_).mono ?_; (iterate 1 simp); (iterate 1 omega); (iterate 1 exact rfl); rintro e w' ⟨rfl, hk⟩; replace hb := hb.trans (hk.mono hB); replace hB := Nat.le_trans hB hk.size; clear hk)
  refine upon_conv (.ok .skip (w'.setRow w.heap.size kc)) ?_ ?_
  · refine Eq.trans (b := ((storeCells ⟨w.heap.size, 0, none⟩ kc.toList).run Tryd.prog w').andThen fun a w' => Result.ok Next.skip w') (by kernel_rfl) ?_
    rw [store34 hb]
    rfl
  rw [Oper.upon_skip]
  go_wp2_with fail
  refine bodyPost_ret (v := .agg kc) ?_ rfl ⟨rfl, setRow_below hb⟩
  simp [results, Tryd.results25, asAddr, Act.put, load34 hb]
end Go.Proofs.YtpiohehijkpghaaDoor
