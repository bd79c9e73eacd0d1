/- The document's reckoning of a word that has no fields, and of one that is no instruction. -/
import Derived.Test.YtpiohehijkpghaaDoorRefD
namespace Go.Proofs.YtpiohehijkpghaaDoor
open Go.RowKit
open Hy
set_option linter.unusedVariables false

set_option maxHeartbeats 1000000 in
theorem rD_E (x M : Int) (x0 : 0 ≤ x) (x1 : x ≤ 4294967295) (m0 : 0 ≤ M)
    (hform : ∀ w, Calls Tryd.prog 27 #[.int .u32 x] w fun e w' => e = .returned (.tuple #[.int .i64 M, .int .u8 69]) ∧ Below w.heap.size w w') (w : World) :
    Calls Tryd.prog 12 #[.int .u32 x] w fun e w' => e = .returned (.tuple #[iv M 0 0 0 0, .bool true]) ∧ Below w.heap.size w w' := by
  go_enter Tryd.func12, Tryd.ntmps12
  go_wp2_with fail
  refine (hform _).mono ?_
  rintro e w1 ⟨rfl, hk⟩
  clear hform
  obtain ⟨r0, r1, r2, r3, r4, z, hs⟩ := zero5 hk
  go_wp2_with fail
  refine bodyPost_ret (v := .tuple #[iv M 0 0 0 0, .bool true]) ?_ rfl ⟨rfl, ?_⟩
  · simp [results, Tryd.results12, go_sem, hs, r0, r1, r2, r3, r4]
  · have hbase : Below w.heap.size w w1 := ((Below.refl _ _).alloc (Nat.le_refl _) _).trans (hk.mono (by simp))
    repeat (first | exact hbase | refine Below.setCell ?_ (by simp; try omega) _ | refine Below.alloc ?_ (by simp; omega) _)

set_option maxHeartbeats 1000000 in
theorem rD_none (x : Int) (x0 : 0 ≤ x) (x1 : x ≤ 4294967295)
    (hform : ∀ w, Calls Tryd.prog 27 #[.int .u32 x] w fun e w' => (∃ l, e = .returned (.tuple #[.int .i64 (-1), .int .u8 l])) ∧ Below w.heap.size w w') (w : World) :
    Calls Tryd.prog 12 #[.int .u32 x] w fun e w' => e = .returned (.tuple #[iv 0 0 0 0 0, .bool false]) ∧ Below w.heap.size w w' := by
  go_enter Tryd.func12, Tryd.ntmps12
  go_wp2_with fail
  refine (hform _).mono ?_
  rintro e w1 ⟨⟨l, rfl⟩, hk⟩
  clear hform
  obtain ⟨r0, r1, r2, r3, r4, z, hs⟩ := zero5 hk
  go_wp2_with fail
  refine bodyPost_ret (v := .tuple #[iv 0 0 0 0 0, .bool false]) ?_ rfl ⟨rfl, ?_⟩
  · simp [results, Tryd.results12, go_sem, r0, r1, r2, r3, r4]
  · have hbase : Below w.heap.size w w1 := ((Below.refl _ _).alloc (Nat.le_refl _) _).trans (hk.mono (by simp))
    repeat (first | exact hbase | refine Below.setCell ?_ (by simp; try omega) _ | refine Below.alloc ?_ (by simp; omega) _)
end Go.Proofs.YtpiohehijkpghaaDoor
