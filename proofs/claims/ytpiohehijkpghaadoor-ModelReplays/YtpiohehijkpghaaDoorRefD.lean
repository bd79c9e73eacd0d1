/- The document's reckoning of a word as an instruction, form by form. -/
import Derived.Test.YtpiohehijkpghaaDoorRefG
import Derived.Test.YtpiohehijkpghaaDoorDecB
namespace Go.Proofs.YtpiohehijkpghaaDoor
open Go.RowKit
open Hy
set_option linter.unusedVariables false

theorem rSigned_v (x S : Int) (x0 : 0 ≤ x) (x1 : x ≤ 4294967295) (HS : Hid (S = sg x)) (w : World) :
    Calls Tryd.prog 29 #[.int .u32 x] w fun e w' => e = .returned (.int .i64 S) ∧ w' = w := by
  rw [HS.out]
  exact rSigned_any x x0 x1 w

theorem zero5 {w w1 : World} (hk : Below (w.alloc (.cells #[.int .i64 0, .int .i64 0, .int .i64 0, .int .i64 0, .int .i32 0] 24)).heap.size (w.alloc (.cells #[.int .i64 0, .int .i64 0, .int .i64 0, .int .i64 0, .int .i32 0] 24)) w1) :
    w1.cell? ⟨w.heap.size, 0, none⟩ = some (.int .i64 0) ∧ w1.cell? ⟨w.heap.size, 1, none⟩ = some (.int .i64 0) ∧ w1.cell? ⟨w.heap.size, 2, none⟩ = some (.int .i64 0) ∧ w1.cell? ⟨w.heap.size, 3, none⟩ = some (.int .i64 0) ∧ w1.cell? ⟨w.heap.size, 4, none⟩ = some (.int .i32 0) ∧ (∀ j, w1.frozen? ⟨w.heap.size, j, none⟩ = false) ∧ w.heap.size < w1.heap.size := by
  obtain ⟨hc, hf⟩ := bcell hk
  have hs := hk.size
  simp at hs
  refine ⟨?_, ?_, ?_, ?_, ?_, ?_, by omega⟩
  · rw [hc _ _ (by simp)]; simp [go_sem]
  · rw [hc _ _ (by simp)]; simp [go_sem]
  · rw [hc _ _ (by simp)]; simp [go_sem]
  · rw [hc _ _ (by simp)]; simp [go_sem]
  · rw [hc _ _ (by simp)]; simp [go_sem]
  · intro j; rw [hf _ _ (by simp)]; simp [go_sem]
end Go.Proofs.YtpiohehijkpghaaDoor
