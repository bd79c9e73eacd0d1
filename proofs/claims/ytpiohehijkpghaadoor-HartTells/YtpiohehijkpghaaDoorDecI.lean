/- What a form reads in a word and writes into one. -/
import Derived.Test.YtpiohehijkpghaaDoorDecW
import Derived.Deep.QuietTactic
import Derived.BigQuiet
namespace Go.Proofs.YtpiohehijkpghaaDoor
open Go.RowKit
open Hy
set_option linter.unusedVariables false
attribute [local go_sem ↓] Go.wp_at_zero Go.wp_at_succ

theorem bcell {W w1 : World} {B : Nat} (hb : Below B W w1) : (∀ b o, b < B → w1.cell? ⟨b, o, none⟩ = W.cell? ⟨b, o, none⟩) ∧ (∀ b o, b < B → w1.frozen? ⟨b, o, none⟩ = W.frozen? ⟨b, o, none⟩) :=
  ⟨fun b o h => hb.cell (p := ⟨b, o, none⟩) h, fun b o h => hb.frozen (p := ⟨b, o, none⟩) h⟩


abbrev fv (c : Nat → Int) : Value := .agg #[.int .u32 (c 0), .int .u32 (c 1), .int .u32 (c 2), .int .u32 (c 3), .int .u32 (c 4), .int .u32 (c 5), .int .u32 (c 6), .int .u32 (c 7), .int .u32 (c 8), .int .u32 (c 9), .int .u32 (c 10), .int .u32 (c 11), .int .u32 (c 12), .int .u32 (c 13), .int .u32 (c 14), .int .u32 (c 15), .int .u32 (c 16)]
abbrev pcs (c : Nat → Int) : Value := .agg #[.int .u32 (c 5), .int .u32 (c 6), .int .u32 (c 7), .int .u32 (c 8), .int .u32 (c 9), .int .u32 (c 10), .int .u32 (c 11), .int .u32 (c 12), .int .u32 (c 13), .int .u32 (c 14), .int .u32 (c 15), .int .u32 (c 16)]
theorem ix0 (c : Nat → Int) (w : World) : (Instr.index 63 (pcs c) (.int .i64 0)).run Tryd.prog w = .ok (.agg #[.int .u32 (c 5), .int .u32 (c 6), .int .u32 (c 7)]) w := by kernel_rfl
theorem ix1 (c : Nat → Int) (w : World) : (Instr.index 63 (pcs c) (.int .i64 1)).run Tryd.prog w = .ok (.agg #[.int .u32 (c 8), .int .u32 (c 9), .int .u32 (c 10)]) w := by kernel_rfl
theorem ix2 (c : Nat → Int) (w : World) : (Instr.index 63 (pcs c) (.int .i64 2)).run Tryd.prog w = .ok (.agg #[.int .u32 (c 11), .int .u32 (c 12), .int .u32 (c 13)]) w := by kernel_rfl
theorem ix3 (c : Nat → Int) (w : World) : (Instr.index 63 (pcs c) (.int .i64 3)).run Tryd.prog w = .ok (.agg #[.int .u32 (c 14), .int .u32 (c 15), .int .u32 (c 16)]) w := by kernel_rfl

set_option maxHeartbeats 1000000 in
theorem readImm_any (c : Nat → Int) (x : Int) (x0 : 0 ≤ x) (x1 : x ≤ 4294967295)
    (hb : ∀ j, 1 ≤ j → 0 ≤ c j ∧ c j ≤ 31) (w : World) :
    Calls Tryd.prog 49 #[fv c, .int .u32 x] w fun e w' => e = .returned (.int .i32 (rim c x)) ∧ Below w.heap.size w w' := by
  have i0 := ix0 c
  have i1 := ix1 c
  have i2 := ix2 c
  have i3 := ix3 c
  go_enter Tryd.func49, Tryd.ntmps49
  go_wp2
  go_loopw [5, 7, 10] (fun b p k wl => ∃ j : Nat, j ≤ 4 ∧ k = .int .i64 j ∧ b = .int .u32 (ib c x j) ∧ Below (w.heap.size + 1) (w.alloc (.cells #[.int .u32 (c 0), .int .u32 (c 1), .int .u32 (c 2), .int .u32 (c 3), .int .u32 (c 4), .int .u32 (c 5), .int .u32 (c 6), .int .u32 (c 7), .int .u32 (c 8), .int .u32 (c 9), .int .u32 (c 10), .int .u32 (c 11), .int .u32 (c 12), .int .u32 (c 13), .int .u32 (c 14), .int .u32 (c 15), .int .u32 (c 16)] 65)) wl ∧ w.heap.size < wl.heap.size) (fun _ _ k _ => 4 - (intOf k).toNat)
  case atStart => exact ⟨0, by omega, rfl, rfl, Below.refl _ _, by simp⟩
  case round =>
    obtain ⟨j, hj, rfl, rfl, hbe, hsz⟩ := hrel
    obtain ⟨T, hTb⟩ : ∃ T, T = ib c x j := ⟨_, rfl⟩
    have HT : Hid (T = ib c x j) := hTb
    rw [← hTb]
    clear hTb
    by_cases hlt : j < 4
    · have hj3 : j = 0 ∨ j = 1 ∨ j = 2 ∨ j = 3 := by omega
      rcases hj3 with rfl | rfl | rfl | rfl
      · obtain ⟨h00, h01⟩ : 0 ≤ c 6 ∧ c 6 ≤ 31 := hb 6 (by omega)
        have hbe2 := hbe.alloc hsz (.cells #[.int .u32 (c 5), .int .u32 (c 6), .int .u32 (c 7)] 62)
        go_wp2_with fail
        go_region_held3 (fun w' => w'.cell? ⟨wr.heap.size, 0, none⟩ = some (.int .u32 (c 5)) ∧ w'.cell? ⟨wr.heap.size, 1, none⟩ = some (.int .u32 (c 6)) ∧ w'.cell? ⟨wr.heap.size, 2, none⟩ = some (.int .u32 (c 7))) (first | go_keep | (obtain ⟨hc, hf⟩ := bcell hk; refine ⟨?_, ?_, ?_⟩ <;> (rw [hc _ _ (by simp)]; go_keep))) ((go_at_call 51; refine (mask_any _ _ _ ?_ ?_ _).mono ?_; (iterate 2 omega); rintro e w' ⟨rfl, hk⟩))
        replace hbe2 := hbe2.drew.trans (hk.mono (B' := w.heap.size + 1) (by simp; omega))
        have hs := hk.size
        simp at hs
        go_wp2
        refine ⟨⟨1, by omega, by go_num, ?_, hbe2, by omega⟩, by simp [intOf]⟩
        rw [ib, ← HT.out]; rfl
      · obtain ⟨h00, h01⟩ : 0 ≤ c 9 ∧ c 9 ≤ 31 := hb 9 (by omega)
        have hbe2 := hbe.alloc hsz (.cells #[.int .u32 (c 8), .int .u32 (c 9), .int .u32 (c 10)] 62)
        go_wp2_with fail
        go_region_held3 (fun w' => w'.cell? ⟨wr.heap.size, 0, none⟩ = some (.int .u32 (c 8)) ∧ w'.cell? ⟨wr.heap.size, 1, none⟩ = some (.int .u32 (c 9)) ∧ w'.cell? ⟨wr.heap.size, 2, none⟩ = some (.int .u32 (c 10))) (first | go_keep | (obtain ⟨hc, hf⟩ := bcell hk; refine ⟨?_, ?_, ?_⟩ <;> (rw [hc _ _ (by simp)]; go_keep))) ((go_at_call 51; refine (mask_any _ _ _ ?_ ?_ _).mono ?_; (iterate 2 omega); rintro e w' ⟨rfl, hk⟩))
        replace hbe2 := hbe2.drew.trans (hk.mono (B' := w.heap.size + 1) (by simp; omega))
        have hs := hk.size
        simp at hs
        go_wp2
        refine ⟨⟨2, by omega, by go_num, ?_, hbe2, by omega⟩, by simp [intOf]⟩
        rw [ib, ← HT.out]; rfl
      · obtain ⟨h00, h01⟩ : 0 ≤ c 12 ∧ c 12 ≤ 31 := hb 12 (by omega)
        have hbe2 := hbe.alloc hsz (.cells #[.int .u32 (c 11), .int .u32 (c 12), .int .u32 (c 13)] 62)
        go_wp2_with fail
        go_region_held3 (fun w' => w'.cell? ⟨wr.heap.size, 0, none⟩ = some (.int .u32 (c 11)) ∧ w'.cell? ⟨wr.heap.size, 1, none⟩ = some (.int .u32 (c 12)) ∧ w'.cell? ⟨wr.heap.size, 2, none⟩ = some (.int .u32 (c 13))) (first | go_keep | (obtain ⟨hc, hf⟩ := bcell hk; refine ⟨?_, ?_, ?_⟩ <;> (rw [hc _ _ (by simp)]; go_keep))) ((go_at_call 51; refine (mask_any _ _ _ ?_ ?_ _).mono ?_; (iterate 2 omega); rintro e w' ⟨rfl, hk⟩))
        replace hbe2 := hbe2.drew.trans (hk.mono (B' := w.heap.size + 1) (by simp; omega))
        have hs := hk.size
        simp at hs
        go_wp2
        refine ⟨⟨3, by omega, by go_num, ?_, hbe2, by omega⟩, by simp [intOf]⟩
        rw [ib, ← HT.out]; rfl
      · obtain ⟨h00, h01⟩ : 0 ≤ c 15 ∧ c 15 ≤ 31 := hb 15 (by omega)
        have hbe2 := hbe.alloc hsz (.cells #[.int .u32 (c 14), .int .u32 (c 15), .int .u32 (c 16)] 62)
        go_wp2_with fail
        go_region_held3 (fun w' => w'.cell? ⟨wr.heap.size, 0, none⟩ = some (.int .u32 (c 14)) ∧ w'.cell? ⟨wr.heap.size, 1, none⟩ = some (.int .u32 (c 15)) ∧ w'.cell? ⟨wr.heap.size, 2, none⟩ = some (.int .u32 (c 16))) (first | go_keep | (obtain ⟨hc, hf⟩ := bcell hk; refine ⟨?_, ?_, ?_⟩ <;> (rw [hc _ _ (by simp)]; go_keep))) ((go_at_call 51; refine (mask_any _ _ _ ?_ ?_ _).mono ?_; (iterate 2 omega); rintro e w' ⟨rfl, hk⟩))
        replace hbe2 := hbe2.drew.trans (hk.mono (B' := w.heap.size + 1) (by simp; omega))
        have hs := hk.size
        simp at hs
        go_wp2
        refine ⟨⟨4, by omega, by go_num, ?_, hbe2, by omega⟩, by simp [intOf]⟩
        rw [ib, ← HT.out]; rfl
    · obtain rfl : j = 4 := by omega
      obtain ⟨h00, h01⟩ : 0 ≤ c 4 ∧ c 4 ≤ 31 := hb 4 (by omega)
      obtain ⟨hc, hf⟩ := bcell hbe
      have h4 : wr.cell? ⟨w.heap.size, 4, none⟩ = some (.int .u32 (c 4)) := by rw [hc _ _ (by omega)]; simp [go_sem]
      clear hc hf
      go_wp2
      go_ret
      exact ⟨by rw [HT.out]; rfl, ((Below.refl _ _).alloc (Nat.le_refl _) _).trans (hbe.mono (by omega))⟩
end Go.Proofs.YtpiohehijkpghaaDoor
