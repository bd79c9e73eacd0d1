/- What Encode answers of an instruction. -/
import Derived.Test.YtpiohehijkpghaaDoorDecD
import Derived.Deep.DeepCutAuto
import Derived.Deep.DeepMust
import Derived.OpenShut
namespace Go.Proofs.YtpiohehijkpghaaDoor
open Go.RowKit
open Hy
set_option linter.unusedVariables false
attribute [local go_sem ↓] Go.wp_at_zero Go.wp_at_succ

theorem Encode_no (op rd rs1 rs2 imm : Int) (w : World) (h : op < 1 ∨ 48 < op) :
    Calls Tryd.prog 13 #[iv op rd rs1 rs2 imm] w fun e w' => e = .returned (.tuple #[.int .u32 0, .int .i64 2]) ∧ Below w.heap.size w w' := by
  by_cases h1 : op < 1
  · go_enter Tryd.func13, Tryd.ntmps13
    go_wp2
    go_ret2
    exact ⟨rfl, (Below.refl _ _).alloc (Nat.le_refl _) _⟩
  · have h2 : 48 < op := by omega
    go_enter Tryd.func13, Tryd.ntmps13
    go_wp2
    go_ret2
    exact ⟨rfl, (Below.refl _ _).alloc (Nat.le_refl _) _⟩

theorem bits_range (o : BinOp) (a b : Int) : 0 ≤ bits o .u32 a b ∧ bits o .u32 a b ≤ 4294967295 := by
  have h := bounds_u32 (wf_bits o .u32 a b)
  omega

theorem dec_cases (x : Int) : (∃ n : Nat, 1 ≤ n ∧ n ≤ 48 ∧ hit n x = true ∧ (∀ m, 1 ≤ m → m < n → hit m x = false)) ∨ (∀ m, 1 ≤ m → m ≤ 48 → hit m x = false) := by
  have h : ∀ N : Nat, (∃ n : Nat, 1 ≤ n ∧ n ≤ N ∧ hit n x = true ∧ (∀ m, 1 ≤ m → m < n → hit m x = false)) ∨ (∀ m, 1 ≤ m → m ≤ N → hit m x = false) := by
    intro N
    induction N with
    | zero => exact .inr fun m h1 h2 => by omega
    | succ N ih =>
      rcases ih with ⟨n, a, b, c, d⟩ | h
      · exact .inl ⟨n, a, by omega, c, d⟩
      · by_cases e : hit (N + 1) x = true
        · exact .inl ⟨N + 1, by omega, by omega, e, fun m h1 h2 => h m h1 (by omega)⟩
        · refine .inr fun m h1 h2 => ?_
          by_cases g : m = N + 1
          · subst g; simpa using e
          · exact h m h1 (by omega)
  exact h 48

theorem Decode_hit (x : Int) (n : Nat) (x0 : 0 ≤ x) (x1 : x ≤ 4294967295) (n1 : 1 ≤ n) (n2 : n ≤ 48) (hn : hit n x = true) (hf : ∀ m, 1 ≤ m → m < n → hit m x = false) (w : World) (ht : Tab w) :
    Calls Tryd.prog 11 #[.int .u32 x] w fun e w' => e = .returned (.tuple #[insv n x, .bool true]) ∧ Below w.heap.size w w' :=
  (Decode_any x x0 x1 w ht).mono fun e w' ⟨h, hb⟩ => by
    rcases h with ⟨m, m1, m2, hm, hmf, he⟩ | ⟨h, _⟩
    · have : m = n := by
        rcases Nat.lt_trichotomy m n with g | g | g
        · rw [hf m m1 g] at hm; cases hm
        · exact g
        · rw [hmf n n1 g] at hn; cases hn
      subst this
      exact ⟨he, hb⟩
    · rw [h n n1 n2] at hn; cases hn

theorem Decode_v (x : Int) (n : Nat) (x0 : 0 ≤ x) (x1 : x ≤ 4294967295) (n1 : 1 ≤ n) (n2 : n ≤ 48) (hn : hit n x = true) (hf : ∀ m, 1 ≤ m → m < n → hit m x = false)
    (M R1 R2 R3 I : Int) (H : Hid (M = (n : Int) ∧ R1 = rrg x 128 (fm (kn n) 1) ∧ R2 = rrg x 32768 (fm (kn n) 2) ∧ R3 = rrg x 1048576 (fm (kn n) 3) ∧ I = rim (fm (kn n)) x)) (w : World) (ht : Tab w) :
    Calls Tryd.prog 11 #[.int .u32 x] w fun e w' => e = .returned (.tuple #[iv M R1 R2 R3 I, .bool true]) ∧ Below w.heap.size w w' := by
  obtain ⟨h0, h1, h2, h3, h4⟩ := H.out
  rw [h0, h1, h2, h3, h4]
  exact Decode_hit x n x0 x1 n1 n2 hn hf w ht

theorem Decode_none (x : Int) (x0 : 0 ≤ x) (x1 : x ≤ 4294967295) (hf : ∀ m, 1 ≤ m → m ≤ 48 → hit m x = false) (w : World) (ht : Tab w) :
    Calls Tryd.prog 11 #[.int .u32 x] w fun e w' => e = .returned (.tuple #[iv 0 0 0 0 0, .bool false]) ∧ Below w.heap.size w w' :=
  (Decode_any x x0 x1 w ht).mono fun e w' ⟨h, hb⟩ => by
    rcases h with ⟨m, m1, m2, hm, hmf, he⟩ | ⟨h, he⟩
    · rw [hf m m1 m2] at hm; cases hm
    · exact ⟨he, hb⟩

theorem keepi {w1 w2 : World} {B : Nat} {op rd rs1 rs2 imm : Int} (hk : Below w1.heap.size w1 w2) (hB : B < w1.heap.size)
    (r0 : w1.cell? ⟨B, 0, none⟩ = some (.int .i64 op)) (r1 : w1.cell? ⟨B, 1, none⟩ = some (.int .i64 rd)) (r2 : w1.cell? ⟨B, 2, none⟩ = some (.int .i64 rs1)) (r3 : w1.cell? ⟨B, 3, none⟩ = some (.int .i64 rs2)) (r4 : w1.cell? ⟨B, 4, none⟩ = some (.int .i32 imm)) :
    w2.cell? ⟨B, 0, none⟩ = some (.int .i64 op) ∧ w2.cell? ⟨B, 1, none⟩ = some (.int .i64 rd) ∧ w2.cell? ⟨B, 2, none⟩ = some (.int .i64 rs1) ∧ w2.cell? ⟨B, 3, none⟩ = some (.int .i64 rs2) ∧ w2.cell? ⟨B, 4, none⟩ = some (.int .i32 imm) := by
  obtain ⟨hc, hf⟩ := bcell hk
  exact ⟨(hc _ _ hB).trans r0, (hc _ _ hB).trans r1, (hc _ _ hB).trans r2, (hc _ _ hB).trans r3, (hc _ _ hB).trans r4⟩

/-- The word that Encode makes. -/
def word (n : Nat) (rd rs1 rs2 imm : Int) : Int := bits .or .u32 (kb n) (wb (fm (kn n)) rd rs1 rs2 imm 4)

/-- A word is read as this instruction. -/
def back (X : Int) (n : Nat) (rd rs1 rs2 imm : Int) : Prop := hit n X = true ∧ (∀ k, 1 ≤ k → k < n → hit k X = false) ∧ rrg X 128 (fm (kn n) 1) = rd ∧ rrg X 32768 (fm (kn n) 2) = rs1 ∧ rrg X 1048576 (fm (kn n) 3) = rs2 ∧ rim (fm (kn n)) X = imm

theorem back_iff {X : Int} {n m : Nat} {rd rs1 rs2 imm M R1 R2 R3 I : Int} (h1 : 1 ≤ n) (m1 : 1 ≤ m) (hm : hit m X = true) (hmf : ∀ k, 1 ≤ k → k < m → hit k X = false)
    (H : Hid (M = (m : Int) ∧ R1 = rrg X 128 (fm (kn m) 1) ∧ R2 = rrg X 32768 (fm (kn m) 2) ∧ R3 = rrg X 1048576 (fm (kn m) 3) ∧ I = rim (fm (kn m)) X)) :
    (M = (n : Int) ∧ R1 = rd ∧ R2 = rs1 ∧ R3 = rs2 ∧ I = imm) ↔ back X n rd rs1 rs2 imm := by
  obtain ⟨g0, g1, g2, g3, g4⟩ := H.out
  constructor
  · rintro ⟨e0, e1, e2, e3, e4⟩
    have : m = n := by omega
    subst this
    exact ⟨hm, hmf, g1 ▸ e1, g2 ▸ e2, g3 ▸ e3, g4 ▸ e4⟩
  · intro h
    have : m = n := by
      rcases Nat.lt_trichotomy m n with g | g | g
      · rw [h.2.1 m m1 g] at hm; cases hm
      · exact g
      · have h' := h.1; rw [hmf n h1 g] at h'; cases h'
    subst this
    exact ⟨g0, g1.trans h.2.2.1, g2.trans h.2.2.2.1, g3.trans h.2.2.2.2.1, g4.trans h.2.2.2.2.2⟩

set_option maxHeartbeats 2000000 in
theorem Encode_x (n : Nat) (h1 : 1 ≤ n) (h2 : n ≤ 48) (rd rs1 rs2 imm X : Int) (HX : Hid (X = word n rd rs1 rs2 imm)) (w : World) (ht : Tab w) :
    Calls Tryd.prog 13 #[iv n rd rs1 rs2 imm] w fun e w' => ((back X n rd rs1 rs2 imm ∧ e = .returned (.tuple #[.int .u32 X, .int .i64 0])) ∨ (¬ back X n rd rs1 rs2 imm ∧ e = .returned (.tuple #[.int .u32 0, .int .i64 2]))) ∧ Below w.heap.size w w' := by
  have h0 := ht.size
  have ix := ix34 n (by omega)
  obtain ⟨hF9, _, hF1⟩ := kn_lt n (by omega)
  have g1 : ¬ (n : Int) < 1 := by omega
  have g2 : ¬ 48 < (n : Int) := by omega
  go_enter Tryd.func13, Tryd.ntmps13
  go_wp2_with fail
  go_cut [4] (fun k wc => ∃ P, k = .pointer (some ⟨P, 0, none⟩) ∧ wc.cell? ⟨P, 0, none⟩ = some (.int .i64 (kn n : Int)) ∧ wc.cell? ⟨P, 1, none⟩ = some (.int .u32 (kb n)) ∧ Below (w.heap.size + 1) (w.alloc (.cells #[.int .i64 n, .int .i64 rd, .int .i64 rs1, .int .i64 rs2, .int .i32 imm] 24)) wc ∧ w.heap.size + 1 ≤ wc.heap.size ∧ P < wc.heap.size)
  case first =>
    go_region_with ((go_at_call 25; go_must ((refine (kinds_any _).mono ?_; rintro e w1 ⟨rfl, hk⟩; have hs1 : w.heap.size < w1.heap.size := by (have := hk.size; simp at this; omega))); obtain ⟨hc, hf⟩ := bcell hk))
    all_goals (go_wp2_with fail; go_meet)
    all_goals (have hs2 := hk.size; simp at hs2)
    all_goals first
      | exact ⟨_, rfl, by simp [go_sem], by simp [go_sem], ((Below.refl _ _).drew.trans (hk.mono (by simp))).alloc (by omega) _, by simp; omega, by simp⟩
      | exact ⟨_, rfl, by simp [go_sem, hc], by simp [go_sem, hc], (((((Below.refl _ _).alloc (by simp) _).drew).trans (hk.mono (by simp))).setCell (by simp) _).setCell (by simp) _, by simp; omega, by simp; omega⟩
  case rest =>
    obtain ⟨P, rfl, p0, p1, hbe, hsz, hP⟩ := hcut
    have htc : Tab wc := (ht.alloc _).below hbe (by omega)
    obtain ⟨F, hF⟩ : ∃ F, F = kn n := ⟨_, rfl⟩
    have HF : Hid (F = kn n) := hF
    rw [← hF] at p0 hF9
    clear hF hF1
    have f0 : wc.cell? ⟨0, F * 17, none⟩ = some (.int .u32 (fm F 0)) := htc.form F hF9 0 (by omega)
    have f1 := htc.form F hF9 1 (by omega)
    have f2 := htc.form F hF9 2 (by omega)
    have f3 := htc.form F hF9 3 (by omega)
    have f4 := htc.form F hF9 4 (by omega)
    have f5 := htc.form F hF9 5 (by omega)
    have f6 := htc.form F hF9 6 (by omega)
    have f7 := htc.form F hF9 7 (by omega)
    have f8 := htc.form F hF9 8 (by omega)
    have f9 := htc.form F hF9 9 (by omega)
    have f10 := htc.form F hF9 10 (by omega)
    have f11 := htc.form F hF9 11 (by omega)
    have f12 := htc.form F hF9 12 (by omega)
    have f13 := htc.form F hF9 13 (by omega)
    have f14 := htc.form F hF9 14 (by omega)
    have f15 := htc.form F hF9 15 (by omega)
    have f16 := htc.form F hF9 16 (by omega)
    have i0 : wc.cell? ⟨w.heap.size, 0, none⟩ = some (.int .i64 n) := by rw [(bcell hbe).1 _ _ (by omega)]; simp [go_sem]
    have i1 : wc.cell? ⟨w.heap.size, 1, none⟩ = some (.int .i64 rd) := by rw [(bcell hbe).1 _ _ (by omega)]; simp [go_sem]
    have i2 : wc.cell? ⟨w.heap.size, 2, none⟩ = some (.int .i64 rs1) := by rw [(bcell hbe).1 _ _ (by omega)]; simp [go_sem]
    have i3 : wc.cell? ⟨w.heap.size, 3, none⟩ = some (.int .i64 rs2) := by rw [(bcell hbe).1 _ _ (by omega)]; simp [go_sem]
    have i4 : wc.cell? ⟨w.heap.size, 4, none⟩ = some (.int .i32 imm) := by rw [(bcell hbe).1 _ _ (by omega)]; simp [go_sem]
    have b1 : (0 : Int) ≤ (F : Int) := by omega
    have b2 : (F : Int) < 9 := by omega
    go_wp2_with fail
    go_cut [5] (fun x wd => x = .int .u32 X ∧ Below (w.heap.size + 1) (w.alloc (.cells #[.int .i64 n, .int .i64 rd, .int .i64 rs1, .int .i64 rs2, .int .i32 imm] 24)) wd ∧ w.heap.size + 1 ≤ wd.heap.size)
    case first =>
      go_region_held3 (fun w' => w'.cell? ⟨P, 0, none⟩ = some (.int .i64 (F : Int)) ∧ w'.cell? ⟨P, 1, none⟩ = some (.int .u32 (kb n)) ∧ w'.cell? ⟨0, F * 17, none⟩ = some (.int .u32 (fm F 0)) ∧ w'.cell? ⟨0, F * 17 + 1, none⟩ = some (.int .u32 (fm F 1)) ∧ w'.cell? ⟨0, F * 17 + 2, none⟩ = some (.int .u32 (fm F 2)) ∧ w'.cell? ⟨0, F * 17 + 3, none⟩ = some (.int .u32 (fm F 3)) ∧ w'.cell? ⟨0, F * 17 + 4, none⟩ = some (.int .u32 (fm F 4)) ∧ w'.cell? ⟨0, F * 17 + 5, none⟩ = some (.int .u32 (fm F 5)) ∧ w'.cell? ⟨0, F * 17 + 6, none⟩ = some (.int .u32 (fm F 6)) ∧ w'.cell? ⟨0, F * 17 + 7, none⟩ = some (.int .u32 (fm F 7)) ∧ w'.cell? ⟨0, F * 17 + 8, none⟩ = some (.int .u32 (fm F 8)) ∧ w'.cell? ⟨0, F * 17 + 9, none⟩ = some (.int .u32 (fm F 9)) ∧ w'.cell? ⟨0, F * 17 + 10, none⟩ = some (.int .u32 (fm F 10)) ∧ w'.cell? ⟨0, F * 17 + 11, none⟩ = some (.int .u32 (fm F 11)) ∧ w'.cell? ⟨0, F * 17 + 12, none⟩ = some (.int .u32 (fm F 12)) ∧ w'.cell? ⟨0, F * 17 + 13, none⟩ = some (.int .u32 (fm F 13)) ∧ w'.cell? ⟨0, F * 17 + 14, none⟩ = some (.int .u32 (fm F 14)) ∧ w'.cell? ⟨0, F * 17 + 15, none⟩ = some (.int .u32 (fm F 15)) ∧ w'.cell? ⟨0, F * 17 + 16, none⟩ = some (.int .u32 (fm F 16)) ∧ w'.cell? ⟨w.heap.size, 0, none⟩ = some (.int .i64 n) ∧ w'.cell? ⟨w.heap.size, 1, none⟩ = some (.int .i64 rd) ∧ w'.cell? ⟨w.heap.size, 2, none⟩ = some (.int .i64 rs1) ∧ w'.cell? ⟨w.heap.size, 3, none⟩ = some (.int .i64 rs2) ∧ w'.cell? ⟨w.heap.size, 4, none⟩ = some (.int .i32 imm)) (first | go_keep | (go_split_ands; refine ⟨?_, ?_, ?_, ?_, ?_, ?_, ?_, ?_, ?_, ?_, ?_, ?_, ?_, ?_, ?_, ?_, ?_, ?_, ?_, ?_, ?_, ?_, ?_, ?_⟩ <;> (rw [(bcell hk).1 _ _ (by simp; omega)]; go_keep))) ((go_at_call 31; refine (write_any (fm F) n rd rs1 rs2 imm (fm_bound F hF9) _).mono ?_; rintro e w1 ⟨rfl, hk⟩))
      have hs1 := hk.size
      simp at hs1
      have hX : bits .or .u32 (kb n) (wb (fm F) rd rs1 rs2 imm 4) = X := by rw [HX.out, HF.out]; rfl
      go_wp2_with fail
      go_meet
      exact ⟨by rw [hX], hbe.drew.trans (hk.mono (by simp; omega)), by omega⟩
    case rest =>
      clear f0 f1 f2 f3 f4 f5 f6 f7 f8 f9 f10 f11 f12 f13 f14 f15 f16 i0 i1 i2 i3 i4 p0 p1 hbe htc b1 b2
      obtain ⟨rfl, hbw, hs1⟩ := hcut
      have ht1 : Tab wc := (ht.alloc _).below hbw (by omega)
      have i0 : wc.cell? ⟨w.heap.size, 0, none⟩ = some (.int .i64 n) := by rw [(bcell hbw).1 _ _ (by omega)]; simp [go_sem]
      have i1 : wc.cell? ⟨w.heap.size, 1, none⟩ = some (.int .i64 rd) := by rw [(bcell hbw).1 _ _ (by omega)]; simp [go_sem]
      have i2 : wc.cell? ⟨w.heap.size, 2, none⟩ = some (.int .i64 rs1) := by rw [(bcell hbw).1 _ _ (by omega)]; simp [go_sem]
      have i3 : wc.cell? ⟨w.heap.size, 3, none⟩ = some (.int .i64 rs2) := by rw [(bcell hbw).1 _ _ (by omega)]; simp [go_sem]
      have i4 : wc.cell? ⟨w.heap.size, 4, none⟩ = some (.int .i32 imm) := by rw [(bcell hbw).1 _ _ (by omega)]; simp [go_sem]
      obtain ⟨x0, x1⟩ : 0 ≤ X ∧ X ≤ 4294967295 := by rw [HX.out]; exact bits_range .or _ _
      have hfin : ∀ w2 o, Below wc.heap.size wc w2 → Below w.heap.size w (w2.alloc o) := fun w2 o hk2 =>
        (((Below.refl _ _).alloc (Nat.le_refl _) _).trans ((hbw.mono (by omega)).trans (hk2.mono (by omega)))).alloc (by have := hk2.size; omega) o
      clear hbw HX ht HF ix hF9
      rcases dec_cases X with ⟨m, m1, m2, hm, hmf⟩ | hnone
      · obtain ⟨M, R1, R2, R3, I, H⟩ : ∃ M R1 R2 R3 I : Int, Hid (M = (m : Int) ∧ R1 = rrg X 128 (fm (kn m) 1) ∧ R2 = rrg X 32768 (fm (kn m) 2) ∧ R3 = rrg X 1048576 (fm (kn m) 3) ∧ I = rim (fm (kn m)) X) := ⟨_, _, _, _, _, rfl, rfl, rfl, rfl, rfl⟩
        have HBi := back_iff (n := n) (rd := rd) (rs1 := rs1) (rs2 := rs2) (imm := imm) h1 m1 hm hmf H
        by_cases e0 : M = (n : Int)
        · by_cases e1 : R1 = rd
          · by_cases e2 : R2 = rs1
            · by_cases e3 : R3 = rs2
              · by_cases e4 : I = imm
                · have HB := HBi.1 ⟨e0, e1, e2, e3, e4⟩
                  clear HBi
                  go_wp2_with (go_at_call 11; refine (Decode_v X m x0 x1 m1 m2 hm hmf M R1 R2 R3 I H _ ht1).mono ?_; rintro e w2 ⟨rfl, hk2⟩; obtain ⟨j0, j1, j2, j3, j4⟩ := keepi hk2 (by omega) i0 i1 i2 i3 i4; have hs2 : w.heap.size < w2.heap.size := by (have := hk2.size; omega))
                  go_ret2
                  exact ⟨.inl ⟨HB, rfl⟩, hfin _ _ hk2⟩
                · have HB : ¬ back X n rd rs1 rs2 imm := fun h => e4 (HBi.2 h).2.2.2.2
                  clear HBi
                  go_wp2_with (go_at_call 11; refine (Decode_v X m x0 x1 m1 m2 hm hmf M R1 R2 R3 I H _ ht1).mono ?_; rintro e w2 ⟨rfl, hk2⟩; obtain ⟨j0, j1, j2, j3, j4⟩ := keepi hk2 (by omega) i0 i1 i2 i3 i4; have hs2 : w.heap.size < w2.heap.size := by (have := hk2.size; omega))
                  go_ret2
                  exact ⟨.inr ⟨HB, rfl⟩, hfin _ _ hk2⟩
              · have HB : ¬ back X n rd rs1 rs2 imm := fun h => e3 (HBi.2 h).2.2.2.1
                clear HBi
                go_wp2_with (go_at_call 11; refine (Decode_v X m x0 x1 m1 m2 hm hmf M R1 R2 R3 I H _ ht1).mono ?_; rintro e w2 ⟨rfl, hk2⟩; obtain ⟨j0, j1, j2, j3, j4⟩ := keepi hk2 (by omega) i0 i1 i2 i3 i4; have hs2 : w.heap.size < w2.heap.size := by (have := hk2.size; omega))
                go_ret2
                exact ⟨.inr ⟨HB, rfl⟩, hfin _ _ hk2⟩
            · have HB : ¬ back X n rd rs1 rs2 imm := fun h => e2 (HBi.2 h).2.2.1
              clear HBi
              go_wp2_with (go_at_call 11; refine (Decode_v X m x0 x1 m1 m2 hm hmf M R1 R2 R3 I H _ ht1).mono ?_; rintro e w2 ⟨rfl, hk2⟩; obtain ⟨j0, j1, j2, j3, j4⟩ := keepi hk2 (by omega) i0 i1 i2 i3 i4; have hs2 : w.heap.size < w2.heap.size := by (have := hk2.size; omega))
              go_ret2
              exact ⟨.inr ⟨HB, rfl⟩, hfin _ _ hk2⟩
          · have HB : ¬ back X n rd rs1 rs2 imm := fun h => e1 (HBi.2 h).2.1
            clear HBi
            go_wp2_with (go_at_call 11; refine (Decode_v X m x0 x1 m1 m2 hm hmf M R1 R2 R3 I H _ ht1).mono ?_; rintro e w2 ⟨rfl, hk2⟩; obtain ⟨j0, j1, j2, j3, j4⟩ := keepi hk2 (by omega) i0 i1 i2 i3 i4; have hs2 : w.heap.size < w2.heap.size := by (have := hk2.size; omega))
            go_ret2
            exact ⟨.inr ⟨HB, rfl⟩, hfin _ _ hk2⟩
        · have HB : ¬ back X n rd rs1 rs2 imm := fun h => e0 (HBi.2 h).1
          clear HBi
          go_wp2_with (go_at_call 11; refine (Decode_v X m x0 x1 m1 m2 hm hmf M R1 R2 R3 I H _ ht1).mono ?_; rintro e w2 ⟨rfl, hk2⟩; obtain ⟨j0, j1, j2, j3, j4⟩ := keepi hk2 (by omega) i0 i1 i2 i3 i4; have hs2 : w.heap.size < w2.heap.size := by (have := hk2.size; omega))
          go_ret2
          exact ⟨.inr ⟨HB, rfl⟩, hfin _ _ hk2⟩
      · have HB : ¬ back X n rd rs1 rs2 imm := fun h => by have := h.1; rw [hnone n h1 h2] at this; cases this
        go_wp2_with (go_at_call 11; refine (Decode_none X x0 x1 hnone _ ht1).mono ?_; rintro e w2 ⟨rfl, hk2⟩; obtain ⟨j0, j1, j2, j3, j4⟩ := keepi hk2 (by omega) i0 i1 i2 i3 i4; have hs2 : w.heap.size < w2.heap.size := by (have := hk2.size; omega))
        go_ret2
        exact ⟨.inr ⟨HB, rfl⟩, hfin _ _ hk2⟩

theorem Encode_any (n : Nat) (h1 : 1 ≤ n) (h2 : n ≤ 48) (rd rs1 rs2 imm : Int) (w : World) (ht : Tab w) :
    Calls Tryd.prog 13 #[iv n rd rs1 rs2 imm] w fun e w' => ((back (word n rd rs1 rs2 imm) n rd rs1 rs2 imm ∧ e = .returned (.tuple #[.int .u32 (word n rd rs1 rs2 imm), .int .i64 0])) ∨ (¬ back (word n rd rs1 rs2 imm) n rd rs1 rs2 imm ∧ e = .returned (.tuple #[.int .u32 0, .int .i64 2]))) ∧ Below w.heap.size w w' :=
  Encode_x n h1 h2 rd rs1 rs2 imm _ rfl w ht
end Go.Proofs.YtpiohehijkpghaaDoor
