/- What a form reads in a word. -/
import Derived.Test.YtpiohehijkpghaaDoorDecI
namespace Go.Proofs.YtpiohehijkpghaaDoor
open Go.RowKit
open Hy
set_option linter.unusedVariables false
attribute [local go_sem ↓] Go.wp_at_zero Go.wp_at_succ

theorem wrap_i64' (n : Int) : IntKind.i64.wrap n = wrap64 n := by
  simp [IntKind.wrap, IntKind.bits, IntKind.signed, wrap64]
  try omega

theorem res5 {w w' : World} {o : Obj} {t : TypeId} (hk : Below ((w.alloc o).alloc (.cells #[.int .i64 0, .int .i64 0, .int .i64 0, .int .i64 0, .int .i32 0] t)).drew.heap.size ((w.alloc o).alloc (.cells #[.int .i64 0, .int .i64 0, .int .i64 0, .int .i64 0, .int .i32 0] t)).drew w') :
    w'.cell? ⟨w.heap.size + 1, 0, none⟩ = some (.int .i64 0) ∧ w'.cell? ⟨w.heap.size + 1, 1, none⟩ = some (.int .i64 0) ∧ w'.cell? ⟨w.heap.size + 1, 2, none⟩ = some (.int .i64 0) ∧ w'.cell? ⟨w.heap.size + 1, 3, none⟩ = some (.int .i64 0) ∧ w'.cell? ⟨w.heap.size + 1, 4, none⟩ = some (.int .i32 0)
    ∧ w'.frozen? ⟨w.heap.size + 1, 0, none⟩ = false ∧ w'.frozen? ⟨w.heap.size + 1, 1, none⟩ = false ∧ w'.frozen? ⟨w.heap.size + 1, 2, none⟩ = false ∧ w'.frozen? ⟨w.heap.size + 1, 3, none⟩ = false ∧ w'.frozen? ⟨w.heap.size + 1, 4, none⟩ = false := by
  obtain ⟨hc, hf⟩ := bcell hk
  simp only [hc _ _ (show w.heap.size + 1 < _ by simp), hf _ _ (show w.heap.size + 1 < _ by simp)]
  simp [go_sem]

set_option maxHeartbeats 1000000 in
theorem read_any (c : Nat → Int) (n x : Int) (x0 : 0 ≤ x) (x1 : x ≤ 4294967295)
    (hb : ∀ j, 1 ≤ j → 0 ≤ c j ∧ c j ≤ 31) (w : World) :
    Calls Tryd.prog 26 #[fv c, .int .i64 n, .int .u32 x] w fun e w' => e = .returned (.agg #[.int .i64 n, .int .i64 (rrg x 128 (c 1)), .int .i64 (rrg x 32768 (c 2)), .int .i64 (rrg x 1048576 (c 3)), .int .i32 (rim c x)]) ∧ Below w.heap.size w w' := by
  go_enter Tryd.func26, Tryd.ntmps26
  go_wp2_with fail
  go_region_held3 (fun w' => w'.cell? ⟨w.heap.size, 0, none⟩ = some (.int .u32 (c 0)) ∧ w'.cell? ⟨w.heap.size, 1, none⟩ = some (.int .u32 (c 1)) ∧ w'.cell? ⟨w.heap.size, 2, none⟩ = some (.int .u32 (c 2)) ∧ w'.cell? ⟨w.heap.size, 3, none⟩ = some (.int .u32 (c 3)) ∧ w'.cell? ⟨w.heap.size, 4, none⟩ = some (.int .u32 (c 4)) ∧ w'.cell? ⟨w.heap.size, 5, none⟩ = some (.int .u32 (c 5)) ∧ w'.cell? ⟨w.heap.size, 6, none⟩ = some (.int .u32 (c 6)) ∧ w'.cell? ⟨w.heap.size, 7, none⟩ = some (.int .u32 (c 7)) ∧ w'.cell? ⟨w.heap.size, 8, none⟩ = some (.int .u32 (c 8)) ∧ w'.cell? ⟨w.heap.size, 9, none⟩ = some (.int .u32 (c 9)) ∧ w'.cell? ⟨w.heap.size, 10, none⟩ = some (.int .u32 (c 10)) ∧ w'.cell? ⟨w.heap.size, 11, none⟩ = some (.int .u32 (c 11)) ∧ w'.cell? ⟨w.heap.size, 12, none⟩ = some (.int .u32 (c 12)) ∧ w'.cell? ⟨w.heap.size, 13, none⟩ = some (.int .u32 (c 13)) ∧ w'.cell? ⟨w.heap.size, 14, none⟩ = some (.int .u32 (c 14)) ∧ w'.cell? ⟨w.heap.size, 15, none⟩ = some (.int .u32 (c 15)) ∧ w'.cell? ⟨w.heap.size, 16, none⟩ = some (.int .u32 (c 16))) (first | go_keep | (obtain ⟨hc, hf⟩ := bcell hk; refine ⟨?_, ?_, ?_, ?_, ?_, ?_, ?_, ?_, ?_, ?_, ?_, ?_, ?_, ?_, ?_, ?_, ?_⟩ <;> (rw [hc _ _ (by simp; omega)]; go_keep))) ((go_at_call 49; refine (readImm_any c x x0 x1 hb _).mono ?_; rintro e w' ⟨rfl, hk⟩; obtain ⟨r0, r1, r2, r3, r4, z0, z1, z2, z3, z4⟩ := res5 hk))
  have hs := hk.size
  simp at hs
  go_wp2
  refine bodyPost_ret (v := .agg #[.int .i64 n, .int .i64 (rrg x 128 (c 1)), .int .i64 (rrg x 32768 (c 2)), .int .i64 (rrg x 1048576 (c 3)), .int .i32 (rim c x)]) ?_ rfl ⟨rfl, ?_⟩
  · simp [results, Tryd.results26, go_sem, rrg, r0, r1, r2, r3, r4]
    exact ⟨wrap_i64' _, wrap_i64' _, wrap_i64' _⟩
  · have hbase : Below w.heap.size w w' := (((Below.refl _ _).alloc (Nat.le_refl _) _).alloc (by simp) _).drew.trans (hk.mono (by simp; omega))
    repeat (first | exact hbase | refine Below.drew ?_ | refine Below.setCell ?_ (by simp) _)
end Go.Proofs.YtpiohehijkpghaaDoor
