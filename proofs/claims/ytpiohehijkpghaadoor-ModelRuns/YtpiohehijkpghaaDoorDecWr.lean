/- What a form writes into a word. -/
import Derived.Test.YtpiohehijkpghaaDoorDecI
import Derived.Test.YtpiohehijkpghaaDoorDecM
namespace Go.Proofs.YtpiohehijkpghaaDoor
open Go.RowKit
open Hy
set_option linter.unusedVariables false
attribute [local go_sem ↓] Go.wp_at_zero Go.wp_at_succ

abbrev iv (op rd rs1 rs2 imm : Int) : Value := .agg #[.int .i64 op, .int .i64 rd, .int .i64 rs1, .int .i64 rs2, .int .i32 imm]

set_option maxHeartbeats 1000000 in
theorem write_any (c : Nat → Int) (op rd rs1 rs2 imm : Int)
    (hb : ∀ j, 1 ≤ j → 0 ≤ c j ∧ c j ≤ 31) (w : World) :
    Calls Tryd.prog 31 #[fv c, iv op rd rs1 rs2 imm] w fun e w' => e = .returned (.int .u32 (wb c rd rs1 rs2 imm 4)) ∧ Below w.heap.size w w' := by
  have i0 := ix0 c
  have i1 := ix1 c
  have i2 := ix2 c
  have i3 := ix3 c
  go_enter Tryd.func31, Tryd.ntmps31
  go_wp2
  go_loopw [5, 7, 35] (fun b p k wl => ∃ j : Nat, j ≤ 4 ∧ k = .int .i64 j ∧ b = .int .u32 (wb c rd rs1 rs2 imm j) ∧ Below (w.heap.size + 2) ((w.alloc (.cells #[.int .u32 (c 0), .int .u32 (c 1), .int .u32 (c 2), .int .u32 (c 3), .int .u32 (c 4), .int .u32 (c 5), .int .u32 (c 6), .int .u32 (c 7), .int .u32 (c 8), .int .u32 (c 9), .int .u32 (c 10), .int .u32 (c 11), .int .u32 (c 12), .int .u32 (c 13), .int .u32 (c 14), .int .u32 (c 15), .int .u32 (c 16)] 65)).alloc (.cells #[.int .i64 op, .int .i64 rd, .int .i64 rs1, .int .i64 rs2, .int .i32 imm] 24)) wl ∧ w.heap.size + 2 ≤ wl.heap.size) (fun _ _ k _ => 4 - (intOf k).toNat)
  case atStart =>
    refine ⟨0, by omega, rfl, rfl, Below.refl _ _, by simp⟩
  case round =>
    obtain ⟨j, hj, rfl, rfl, hbe, hsz⟩ := hrel
    obtain ⟨T, hTb⟩ : ∃ T, T = wb c rd rs1 rs2 imm j := ⟨_, rfl⟩
    have HT : Hid (T = wb c rd rs1 rs2 imm j) := hTb
    rw [← hTb]
    clear hTb
    by_cases hlt : j < 4
    · have hj3 : j = 0 ∨ j = 1 ∨ j = 2 ∨ j = 3 := by omega
      have h4 : wr.cell? ⟨w.heap.size + 1, 4, none⟩ = some (.int .i32 imm) := by rw [(bcell hbe).1 _ _ (by omega)]; simp [go_sem]
      rcases hj3 with rfl | rfl | rfl | rfl
      · obtain ⟨h00, h01⟩ : 0 ≤ c 6 ∧ c 6 ≤ 31 := hb 6 (by omega)
        have hbe2 := hbe.alloc hsz (.cells #[.int .u32 (c 5), .int .u32 (c 6), .int .u32 (c 7)] 62)
        go_wp2_with fail
        go_region_held3 (fun w' => w'.cell? ⟨wr.heap.size, 0, none⟩ = some (.int .u32 (c 5)) ∧ w'.cell? ⟨wr.heap.size, 1, none⟩ = some (.int .u32 (c 6)) ∧ w'.cell? ⟨wr.heap.size, 2, none⟩ = some (.int .u32 (c 7)) ∧ w'.cell? ⟨w.heap.size + 1, 4, none⟩ = some (.int .i32 imm)) (first | go_keep | (obtain ⟨hc, hf⟩ := bcell hk; refine ⟨?_, ?_, ?_, ?_⟩ <;> (rw [hc _ _ (by simp; try omega)]; go_keep))) ((go_at_call 51; refine (mask_any _ _ _ ?_ ?_ _).mono ?_; (iterate 2 omega); rintro e w' ⟨rfl, hk⟩))
        replace hbe2 := hbe2.drew.trans (hk.mono (B' := w.heap.size + 2) (by simp; omega))
        have hs := hk.size
        simp at hs
        go_wp2
        refine ⟨⟨1, by omega, by go_num, ?_, hbe2, by omega⟩, by simp [intOf]⟩
        rw [wb, ← HT.out]; rfl
      · obtain ⟨h00, h01⟩ : 0 ≤ c 9 ∧ c 9 ≤ 31 := hb 9 (by omega)
        have hbe2 := hbe.alloc hsz (.cells #[.int .u32 (c 8), .int .u32 (c 9), .int .u32 (c 10)] 62)
        go_wp2_with fail
        go_region_held3 (fun w' => w'.cell? ⟨wr.heap.size, 0, none⟩ = some (.int .u32 (c 8)) ∧ w'.cell? ⟨wr.heap.size, 1, none⟩ = some (.int .u32 (c 9)) ∧ w'.cell? ⟨wr.heap.size, 2, none⟩ = some (.int .u32 (c 10)) ∧ w'.cell? ⟨w.heap.size + 1, 4, none⟩ = some (.int .i32 imm)) (first | go_keep | (obtain ⟨hc, hf⟩ := bcell hk; refine ⟨?_, ?_, ?_, ?_⟩ <;> (rw [hc _ _ (by simp; try omega)]; go_keep))) ((go_at_call 51; refine (mask_any _ _ _ ?_ ?_ _).mono ?_; (iterate 2 omega); rintro e w' ⟨rfl, hk⟩))
        replace hbe2 := hbe2.drew.trans (hk.mono (B' := w.heap.size + 2) (by simp; omega))
        have hs := hk.size
        simp at hs
        go_wp2
        refine ⟨⟨2, by omega, by go_num, ?_, hbe2, by omega⟩, by simp [intOf]⟩
        rw [wb, ← HT.out]; rfl
      · obtain ⟨h00, h01⟩ : 0 ≤ c 12 ∧ c 12 ≤ 31 := hb 12 (by omega)
        have hbe2 := hbe.alloc hsz (.cells #[.int .u32 (c 11), .int .u32 (c 12), .int .u32 (c 13)] 62)
        go_wp2_with fail
        go_region_held3 (fun w' => w'.cell? ⟨wr.heap.size, 0, none⟩ = some (.int .u32 (c 11)) ∧ w'.cell? ⟨wr.heap.size, 1, none⟩ = some (.int .u32 (c 12)) ∧ w'.cell? ⟨wr.heap.size, 2, none⟩ = some (.int .u32 (c 13)) ∧ w'.cell? ⟨w.heap.size + 1, 4, none⟩ = some (.int .i32 imm)) (first | go_keep | (obtain ⟨hc, hf⟩ := bcell hk; refine ⟨?_, ?_, ?_, ?_⟩ <;> (rw [hc _ _ (by simp; try omega)]; go_keep))) ((go_at_call 51; refine (mask_any _ _ _ ?_ ?_ _).mono ?_; (iterate 2 omega); rintro e w' ⟨rfl, hk⟩))
        replace hbe2 := hbe2.drew.trans (hk.mono (B' := w.heap.size + 2) (by simp; omega))
        have hs := hk.size
        simp at hs
        go_wp2
        refine ⟨⟨3, by omega, by go_num, ?_, hbe2, by omega⟩, by simp [intOf]⟩
        rw [wb, ← HT.out]; rfl
      · obtain ⟨h00, h01⟩ : 0 ≤ c 15 ∧ c 15 ≤ 31 := hb 15 (by omega)
        have hbe2 := hbe.alloc hsz (.cells #[.int .u32 (c 14), .int .u32 (c 15), .int .u32 (c 16)] 62)
        go_wp2_with fail
        go_region_held3 (fun w' => w'.cell? ⟨wr.heap.size, 0, none⟩ = some (.int .u32 (c 14)) ∧ w'.cell? ⟨wr.heap.size, 1, none⟩ = some (.int .u32 (c 15)) ∧ w'.cell? ⟨wr.heap.size, 2, none⟩ = some (.int .u32 (c 16)) ∧ w'.cell? ⟨w.heap.size + 1, 4, none⟩ = some (.int .i32 imm)) (first | go_keep | (obtain ⟨hc, hf⟩ := bcell hk; refine ⟨?_, ?_, ?_, ?_⟩ <;> (rw [hc _ _ (by simp; try omega)]; go_keep))) ((go_at_call 51; refine (mask_any _ _ _ ?_ ?_ _).mono ?_; (iterate 2 omega); rintro e w' ⟨rfl, hk⟩))
        replace hbe2 := hbe2.drew.trans (hk.mono (B' := w.heap.size + 2) (by simp; omega))
        have hs := hk.size
        simp at hs
        go_wp2
        refine ⟨⟨4, by omega, by go_num, ?_, hbe2, by omega⟩, by simp [intOf]⟩
        rw [wb, ← HT.out]; rfl
    · obtain rfl : j = 4 := by omega
      go_wp2
      go_ret
      exact ⟨by rw [HT.out]; rfl, (((Below.refl _ _).alloc (Nat.le_refl _) _).alloc (by simp) _).trans (hbe.mono (by omega))⟩
end Go.Proofs.YtpiohehijkpghaaDoor
