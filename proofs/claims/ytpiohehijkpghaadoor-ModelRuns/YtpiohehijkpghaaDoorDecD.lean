/- What Decode answers of a word: the first instruction that the word is told to be, read by its form; or none. -/
import Derived.Test.YtpiohehijkpghaaDoorDecK
import Derived.Test.YtpiohehijkpghaaDoorDecR
import Derived.Test.YtpiohehijkpghaaDoorDecWr
import Derived.Test.YtpiohehijkpghaaDoorDecM
namespace Go.Proofs.YtpiohehijkpghaaDoor
open Go.RowKit
open Hy
set_option linter.unusedVariables false

/-- The table lies in memory as the program's text lays it. -/
def Tab (w : World) : Prop := ∀ i, i < 153 → w.cell? ⟨0, i, none⟩ = some (.int .u32 (ftab.getD i 0))

theorem Tab.size {w : World} (h : Tab w) : 0 < w.heap.size := by
  have h0 := h 0 (by omega)
  rcases Nat.eq_zero_or_pos w.heap.size with hz | hz
  · simp [World.cell?, Array.eq_empty_of_size_eq_zero hz] at h0
  · exact hz

theorem Tab.below {w w' : World} {B : Nat} (h : Tab w) (hb : Below B w w') (hB : 0 < B) : Tab w' :=
  fun i hi => (hb.cell (p := ⟨0, i, none⟩) hB).trans (h i hi)

theorem Tab.alloc {w : World} (h : Tab w) (o : Obj) : Tab (w.alloc o) :=
  h.below ((Below.refl w.heap.size w).alloc (Nat.le_refl _) o) h.size

theorem Tab.form {w : World} (h : Tab w) (f : Nat) (hf : f < 9) (j : Nat) (hj : j < 17) : w.cell? ⟨0, f * 17 + j, none⟩ = some (.int .u32 (fm f j)) := by
  rw [h _ (by omega), fm, if_pos hj]

theorem ix34 (n : Nat) (hn : n < 49) (w : World) : (Instr.index 59 (.agg kc) (.int .i64 (n : Int))).run Tryd.prog w = .ok (.agg #[.int .i64 (kn n : Int), .int .u32 (kb n)]) w :=
  match n, hn with
  | 0, _ => by kernel_rfl
  | 1, _ => by kernel_rfl
  | 2, _ => by kernel_rfl
  | 3, _ => by kernel_rfl
  | 4, _ => by kernel_rfl
  | 5, _ => by kernel_rfl
  | 6, _ => by kernel_rfl
  | 7, _ => by kernel_rfl
  | 8, _ => by kernel_rfl
  | 9, _ => by kernel_rfl
  | 10, _ => by kernel_rfl
  | 11, _ => by kernel_rfl
  | 12, _ => by kernel_rfl
  | 13, _ => by kernel_rfl
  | 14, _ => by kernel_rfl
  | 15, _ => by kernel_rfl
  | 16, _ => by kernel_rfl
  | 17, _ => by kernel_rfl
  | 18, _ => by kernel_rfl
  | 19, _ => by kernel_rfl
  | 20, _ => by kernel_rfl
  | 21, _ => by kernel_rfl
  | 22, _ => by kernel_rfl
  | 23, _ => by kernel_rfl
  | 24, _ => by kernel_rfl
  | 25, _ => by kernel_rfl
  | 26, _ => by kernel_rfl
  | 27, _ => by kernel_rfl
  | 28, _ => by kernel_rfl
  | 29, _ => by kernel_rfl
  | 30, _ => by kernel_rfl
  | 31, _ => by kernel_rfl
  | 32, _ => by kernel_rfl
  | 33, _ => by kernel_rfl
  | 34, _ => by kernel_rfl
  | 35, _ => by kernel_rfl
  | 36, _ => by kernel_rfl
  | 37, _ => by kernel_rfl
  | 38, _ => by kernel_rfl
  | 39, _ => by kernel_rfl
  | 40, _ => by kernel_rfl
  | 41, _ => by kernel_rfl
  | 42, _ => by kernel_rfl
  | 43, _ => by kernel_rfl
  | 44, _ => by kernel_rfl
  | 45, _ => by kernel_rfl
  | 46, _ => by kernel_rfl
  | 47, _ => by kernel_rfl
  | 48, _ => by kernel_rfl
  | k + 49, h => by omega

theorem below_drewN {B : Nat} {a w : World} (h : Below B a w) (n : Nat) : Below B a (w.drewN n) := ⟨h.os, h.tape, h.output, h.size, h.block⟩

theorem keep5 {wr w1 : World} {o : Obj} {nq B : Nat} (hk : Below ((wr.alloc o).drewN nq).heap.size ((wr.alloc o).drewN nq) w1) (hB : B < wr.heap.size)
    (r0 : wr.cell? ⟨B, 0, none⟩ = some (.int .i64 0)) (r1 : wr.cell? ⟨B, 1, none⟩ = some (.int .i64 0)) (r2 : wr.cell? ⟨B, 2, none⟩ = some (.int .i64 0)) (r3 : wr.cell? ⟨B, 3, none⟩ = some (.int .i64 0)) (r4 : wr.cell? ⟨B, 4, none⟩ = some (.int .i32 0))
    (z : ∀ j, wr.frozen? ⟨B, j, none⟩ = false) :
    w1.cell? ⟨B, 0, none⟩ = some (.int .i64 0) ∧ w1.cell? ⟨B, 1, none⟩ = some (.int .i64 0) ∧ w1.cell? ⟨B, 2, none⟩ = some (.int .i64 0) ∧ w1.cell? ⟨B, 3, none⟩ = some (.int .i64 0) ∧ w1.cell? ⟨B, 4, none⟩ = some (.int .i32 0) ∧ ∀ j, w1.frozen? ⟨B, j, none⟩ = false := by
  have hb : Below wr.heap.size wr w1 := (below_drewN ((Below.refl _ _).alloc (Nat.le_refl _) o) nq).trans (hk.mono (by simp))
  obtain ⟨hc, hf⟩ := bcell hb
  exact ⟨(hc _ _ hB).trans r0, (hc _ _ hB).trans r1, (hc _ _ hB).trans r2, (hc _ _ hB).trans r3, (hc _ _ hB).trans r4, fun j => (hf _ _ hB).trans (z j)⟩

abbrev insv (n : Nat) (x : Int) : Value := iv n (rrg x 128 (fm (kn n) 1)) (rrg x 32768 (fm (kn n) 2)) (rrg x 1048576 (fm (kn n) 3)) (rim (fm (kn n)) x)

set_option maxHeartbeats 2000000 in
theorem Decode_any (x : Int) (x0 : 0 ≤ x) (x1 : x ≤ 4294967295) (w : World) (ht : Tab w) :
    Calls Tryd.prog 11 #[.int .u32 x] w fun e w' => ((∃ n : Nat, 1 ≤ n ∧ n ≤ 48 ∧ hit n x = true ∧ (∀ m, 1 ≤ m → m < n → hit m x = false) ∧ e = .returned (.tuple #[insv n x, .bool true])) ∨ ((∀ m, 1 ≤ m → m ≤ 48 → hit m x = false) ∧ e = .returned (.tuple #[iv 0 0 0 0 0, .bool false]))) ∧ Below w.heap.size w w' := by
  go_enter Tryd.func11, Tryd.ntmps11
  go_wp2_with (go_at_call 25; refine (kinds_any _).mono ?_; rintro e w1 ⟨rfl, hk⟩)
  go_loopw [4, 5, 7] (fun o p i wl => ∃ n : Nat, n ≤ 49 ∧ i = .int .i64 n ∧ (∀ m, 1 ≤ m → m < n → hit m x = false) ∧ Below (w.heap.size + 1) (w.alloc (.cells #[.int .i64 0, .int .i64 0, .int .i64 0, .int .i64 0, .int .i32 0] 24)) wl ∧ w.heap.size + 1 ≤ wl.heap.size) (fun _ _ k _ => 49 - (intOf k).toNat)
  case atStart =>
    have := hk.size
    simp at this
    exact ⟨0, by omega, rfl, fun m h1 h2 => by omega, hk.mono (by simp), this⟩
  case round =>
    clear hk w1
    obtain ⟨n, hn, rfl, hno, hbe, hsz⟩ := hrel
    have htr : Tab wr := (ht.alloc _).below hbe (by omega)
    obtain ⟨hc, hf⟩ := bcell hbe
    have r0 : wr.cell? ⟨w.heap.size, 0, none⟩ = some (.int .i64 0) := by rw [hc _ _ (by omega)]; simp [go_sem]
    have r1 : wr.cell? ⟨w.heap.size, 1, none⟩ = some (.int .i64 0) := by rw [hc _ _ (by omega)]; simp [go_sem]
    have r2 : wr.cell? ⟨w.heap.size, 2, none⟩ = some (.int .i64 0) := by rw [hc _ _ (by omega)]; simp [go_sem]
    have r3 : wr.cell? ⟨w.heap.size, 3, none⟩ = some (.int .i64 0) := by rw [hc _ _ (by omega)]; simp [go_sem]
    have r4 : wr.cell? ⟨w.heap.size, 4, none⟩ = some (.int .i32 0) := by rw [hc _ _ (by omega)]; simp [go_sem]
    have z : ∀ j, wr.frozen? ⟨w.heap.size, j, none⟩ = false := by intro j; rw [hf _ _ (by omega)]; simp [go_sem]
    clear hc hf
    have h0 := ht.size
    have hw0 : 0 < wr.heap.size := by omega
    by_cases hlt : n < 49
    · by_cases hn0 : n = 0
      · subst hn0
        have ix : ∀ w, (Instr.index 59 (.agg kc) (.int .i64 0)).run Tryd.prog w = .ok (.agg #[.int .i64 0, .int .u32 0]) w := fun w => ix34 0 (by omega) w
        go_wp2_with fail
        go_quiet (fail)
        go_wp2_with fail
        refine ⟨⟨1, by omega, by go_num, fun m h1 h2 => by omega, ?_, ?_⟩, by simp [intOf]⟩
        · exact below_drewN (hbe.alloc hsz _) _
        · simp; omega
      · have ix := ix34 n hlt
        obtain ⟨hF9, _, hF1⟩ := kn_lt n hlt
        obtain ⟨F, hF⟩ : ∃ F, F = kn n := ⟨_, rfl⟩
        have hF1' := hF1 (by omega)
        clear hF1
        rw [← hF] at ix hF9 hF1'
        have HF : Hid (F = kn n) := hF
        clear hF
        have hne : ((F : Int) != 0) = true := by simp; omega
        have b1 : (0 : Int) ≤ (F : Int) := by omega
        have b2 : (F : Int) < 9 := by omega
        have f0' : wr.cell? ⟨0, F * 17, none⟩ = some (.int .u32 (fm F 0)) := htr.form F hF9 0 (by omega)
        have f1 := htr.form F hF9 1 (by omega)
        have f2 := htr.form F hF9 2 (by omega)
        have f3 := htr.form F hF9 3 (by omega)
        have f4 := htr.form F hF9 4 (by omega)
        have f5 := htr.form F hF9 5 (by omega)
        have f6 := htr.form F hF9 6 (by omega)
        have f7 := htr.form F hF9 7 (by omega)
        have f8 := htr.form F hF9 8 (by omega)
        have f9 := htr.form F hF9 9 (by omega)
        have f10 := htr.form F hF9 10 (by omega)
        have f11 := htr.form F hF9 11 (by omega)
        have f12 := htr.form F hF9 12 (by omega)
        have f13 := htr.form F hF9 13 (by omega)
        have f14 := htr.form F hF9 14 (by omega)
        have f15 := htr.form F hF9 15 (by omega)
        have f16 := htr.form F hF9 16 (by omega)
        by_cases hh : hit n x = true
        · have hh' : (bits .and .u32 x (fm F 0) == kb n) = true := by rw [HF.out]; exact hh
          go_wp2_with fail
          go_quiet (fail)
          have hbe2 := below_drewN (hbe.alloc hsz (.cells #[.int .i64 (F : Int), .int .u32 (kb n)] 58)) nq
          go_wp2_with (go_at_call 26; refine (read_any (fm F) _ _ x0 x1 (fm_bound F hF9) _).mono ?_; rintro e w1 ⟨rfl, hk⟩; obtain ⟨q0, q1, q2, q3, q4, y⟩ := keep5 hk (by omega) r0 r1 r2 r3 r4 z)
          replace hbe2 := hbe2.trans (hk.mono (by simp; omega))
          refine bodyPost_ret (v := .tuple #[insv n x, .bool true]) ?_ rfl ⟨.inl ⟨n, by omega, by omega, hh, hno, rfl⟩, ?_⟩
          · simp [results, Tryd.results11, go_sem, q0, q1, q2, q3, q4, HF.out]
          · have hbase : Below w.heap.size w w1 := ((Below.refl _ _).alloc (Nat.le_refl _) _).trans (hbe2.mono (by omega))
            repeat (first | exact hbase | refine Below.setCell ?_ (by simp) _)
        · have hh' : (bits .and .u32 x (fm F 0) == kb n) = false := by rw [HF.out]; simpa [hit] using hh
          clear f1 f2 f3 f4 f5 f6 f7 f8 f9 f10 f11 f12 f13 f14 f15 f16
          go_wp2_with fail
          go_quiet (fail)
          go_wp2_with fail
          refine ⟨⟨n + 1, by omega, by go_num, ?_, below_drewN (hbe.alloc hsz _) _, by simp; omega⟩, by simp [intOf]; omega⟩
          intro m h1 h2
          by_cases e : m = n
          · subst e; simpa using hh
          · exact hno m h1 (by omega)
    · obtain rfl : n = 49 := by omega
      go_wp2_with fail
      refine bodyPost_ret (v := .tuple #[iv 0 0 0 0 0, .bool false]) ?_ rfl ⟨.inr ⟨fun m h1 h2 => hno m h1 (by omega), rfl⟩, ?_⟩
      · simp [results, Tryd.results11, go_sem, r0, r1, r2, r3, r4]
      · have hbase : Below w.heap.size w wr := ((Below.refl _ _).alloc (Nat.le_refl _) _).trans (hbe.mono (by omega))
        repeat (first | exact hbase | refine Below.setCell ?_ (by simp) _)
end Go.Proofs.YtpiohehijkpghaaDoor
