/- What the small functions of package decode come to. -/
import Derived.Test.YtpiohehijkpghaaDoorRows
import Derived.Test.YtpiohehijkpghaaDoorDecM
import Derived.WalkKit
import Derived.WalkSpells
import Derived.WalkLawsBesides
import Derived.Laws.BitsAllLaws
import Derived.Laws.Bits64
import Derived.Below
import Derived.Deep.RegionHeld3
import Derived.Deep.DrawnRows
namespace Go.Proofs.YtpiohehijkpghaaDoor
open Go.RowKit
open Hy
set_option linter.unusedVariables false
attribute [local go_sem ↓] Go.wp_at_zero Go.wp_at_succ

theorem mask_any (p0 p1 p2 : Int) (h0 : 0 ≤ p1) (h1 : p1 ≤ 31) (w : World) :
    Calls Tryd.prog 51 #[.agg #[.int .u32 p0, .int .u32 p1, .int .u32 p2]] w fun e w' => e = .returned (.int .u32 (msk p1)) ∧ Below w.heap.size w w' := by
  go_enter Tryd.func51, Tryd.ntmps51
  go_wp2
  go_ret
  exact ⟨rfl, (Below.refl _ _).alloc (Nat.le_refl _) _⟩


/-- What toldBy's loop keeps. -/
structure TB (f : Int) (B : Nat) (bs : Int) (w wl : World) : Prop where
  c0 : wl.cell? ⟨B + 1 + 1, 0, none⟩ = some (.int .i64 f)
  c1 : wl.cell? ⟨B + 1 + 1, 1, none⟩ = some (.int .u32 bs)
  b0 : wl.cell? ⟨B + 1, 0, none⟩ = some (.int .u32 0)
  b1 : wl.cell? ⟨B + 1, 1, none⟩ = some (.int .u32 12)
  b2 : wl.cell? ⟨B + 1, 2, none⟩ = some (.int .u32 25)
  r0 : wl.cell? ⟨B, 0, none⟩ = some (.int .i64 0)
  r1 : wl.cell? ⟨B, 1, none⟩ = some (.int .u32 0)
  z0 : wl.frozen? ⟨B, 0, none⟩ = false
  z1 : wl.frozen? ⟨B, 1, none⟩ = false
  z2 : wl.frozen? ⟨B + 1 + 1, 1, none⟩ = false
  be : Below B w wl

theorem tb_next {f : Int} {B : Nat} {T V V' : Int} {w wr : World} (hV : V = V')
    (c0 : wr.cell? ⟨B + 1 + 1, 0, none⟩ = some (.int .i64 f))
    (c1 : wr.cell? ⟨B + 1 + 1, 1, none⟩ = some (.int .u32 T))
    (b0 : wr.cell? ⟨B + 1, 0, none⟩ = some (.int .u32 0))
    (b1 : wr.cell? ⟨B + 1, 1, none⟩ = some (.int .u32 12))
    (b2 : wr.cell? ⟨B + 1, 2, none⟩ = some (.int .u32 25))
    (r0 : wr.cell? ⟨B, 0, none⟩ = some (.int .i64 0))
    (r1 : wr.cell? ⟨B, 1, none⟩ = some (.int .u32 0))
    (z0 : wr.frozen? ⟨B, 0, none⟩ = false)
    (z1 : wr.frozen? ⟨B, 1, none⟩ = false)
    (z2 : wr.frozen? ⟨B + 1 + 1, 1, none⟩ = false)
    (be : Below B w wr) :
    TB f B (bits .or .u32 T V') w (wr.setCell ⟨B + 1 + 1, 1, none⟩ (.int .u32 (bits .or .u32 T V))).drew := by
  subst hV
  refine ⟨?_, ?_, ?_, ?_, ?_, ?_, ?_, ?_, ?_, ?_, (be.setCell (by simp; omega) _).drew⟩
  all_goals simp [go_sem, *]

theorem toldBy_any (n : Nat) (hn : n ≤ 3) (f : Int) (b : Nat) (ps : Nat → Int) (w : World) (hb : b < w.heap.size)
    (hc : ∀ j : Nat, j < n → w.cell? ⟨b, j, none⟩ = some (.int .u32 (ps j))) :
    Calls Tryd.prog 48 #[.int .i64 f, .slice (some ⟨b, 0, none⟩) n n] w fun e w' => e = .returned (.agg #[.int .i64 f, .int .u32 (tb ps n)]) ∧ Below w.heap.size w w' := by
  go_enter Tryd.func48, Tryd.ntmps48
  go_wp2
  go_loopw [7, 8, 14] (fun i p k wl => ∃ j : Nat, j ≤ n ∧ k = .int .i64 j ∧ TB f w.heap.size (tb ps j) w wl) (fun _ _ k _ => n - (intOf k).toNat)
  case atStart =>
    refine ⟨0, Nat.zero_le _, rfl, ⟨?_, ?_, ?_, ?_, ?_, ?_, ?_, ?_, ?_, ?_, ?_⟩⟩
    all_goals try simp [go_sem, tb]
    exact (((Below.refl _ _).alloc (Nat.le_refl _) _).alloc (by simp) _).alloc (by simp; omega) _
  case round =>
    obtain ⟨j, hj, rfl, hT⟩ := hrel
    have c0 := hT.c0
    have c1 := hT.c1
    have b0 := hT.b0
    have b1 := hT.b1
    have b2 := hT.b2
    have r0 := hT.r0
    have r1 := hT.r1
    have z0 := hT.z0
    have z1 := hT.z1
    have z2 := hT.z2
    by_cases hlt : j < n
    · have hx : wr.cell? ⟨b, j, none⟩ = some (.int .u32 (ps j)) := (hT.be.cell (p := ⟨b, j, none⟩) hb).trans (hc j hlt)
      have hj3 : j = 0 ∨ j = 1 ∨ j = 2 := by omega
      obtain ⟨T, hTb⟩ : ∃ T, T = tb ps j := ⟨_, rfl⟩
      have HT : Hid (T = tb ps j) := hTb
      rw [← hTb] at c1
      have hbe := hT.be
      clear hc hTb hT
      rcases hj3 with rfl | rfl | rfl
      all_goals
        go_wp2_with fail
        go_region
        go_wp2
        refine ⟨⟨_, hlt, by go_num, ?_⟩, by simp [intOf]; omega⟩
        rw [tb, ← HT.out]
        exact tb_next (by simp [beg]) c0 c1 b0 b1 b2 r0 r1 z0 z1 z2 hbe
    · obtain rfl : j = n := by omega
      go_wp2
      exact bodyPost_ret (v := .agg #[.int .i64 f, .int .u32 (tb ps j)]) (by simp [results, Tryd.results48, go_sem, r0, r1]) rfl ⟨rfl, (hT.be.setCell (Nat.le_refl _) _).setCell (Nat.le_refl _) _⟩
end Go.Proofs.YtpiohehijkpghaaDoor
