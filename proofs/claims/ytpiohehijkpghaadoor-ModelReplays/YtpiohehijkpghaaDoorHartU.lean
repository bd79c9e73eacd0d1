/- What the keeper's replay comes to: a hart and bytes behind a commit, by what that tells alone. -/
import Derived.Test.YtpiohehijkpghaaDoorHartM
import Derived.Deep.Cut
import Derived.Laws.AppendOwnNone
import Derived.Test.YtpiohehijkpghaaDoorHartN
namespace Go.Proofs.YtpiohehijkpghaaDoor
open Go.RowKit
open Hy
set_option linter.unusedVariables false
set_option linter.unusedSimpArgs false

theorem results2c {P : Program} {fn : Func} {q a : Tmp} {t1 : TypeId} (h : fn.results = #[.cell q t1, .tmp a]) {tmps : Array Value} {w : World} {A1 : Addr} {v1 x : Value}
    (h1 : tmps.getD q undef = .pointer (some A1)) (h3 : tmps.getD a undef = x)
    (L1 : (loadVar t1 A1).run P w = .ok v1 w) : (results fn tmps).run P w = .ok (.tuple #[v1, x]) w := by
  simp only [Array.getD_eq_getD_getElem?] at h1 h3
  simp [results, h, h1, h3, asAddr, L1]

set_option maxRecDepth 20000 in
set_option maxHeartbeats 2000000 in
theorem kreplay_P0 (H : Array Value) (pc next st ca v told : Int) (out : Bool) (g o n c a m : Nat) (f : Nat → Int) (h0 : 0 < n) (hn : n ≤ 4096) (hm : m = 0 ∨ m = 1 ∨ m = 2 ∨ m = 4) (ham : m = 0 ∨ a + m ≤ n) (L : Int) (l0 : 0 ≤ L) (l1 : L ≤ 4294967295) (hH : H.size = 35) (hO : Ones H) (h32 : ∃ z, H[32]? = some (.int .u32 z)) (h33 : ∃ z, H[33]? = some (.int .i64 z)) (h34 : ∃ z, H[34]? = some (.int .i64 z)) (w : World) (hl : Lies w g o n f) :
    Calls Tryd.prog 20 #[.agg H, .slice (some ⟨g, o, none⟩) n c, cv pc next st ca 0 v a m L out told] w fun e w' => (∃ p' cap, e = .returned (.tuple #[.agg (((H.setIfInBounds 32 (.int .u32 next)).setIfInBounds 33 (.int .i64 st)).setIfInBounds 34 (.int .i64 ca)), .slice p' n cap]) ∧ (p' = none → cap = 0) ∧ Own w' w.heap.size p' n (sto f a L m)) ∧ Below w.heap.size w w' := by
  obtain ⟨z2', h32⟩ := h32
  obtain ⟨z3', h33⟩ := h33
  obtain ⟨z4', h34⟩ := h34
  have HI : Hid ((Tryd.prog.info? 34).map (·.size) = some (((H.setIfInBounds 32 (.int .u32 next)).setIfInBounds 33 (.int .i64 st)).setIfInBounds 34 (.int .i64 ca)).size) := by show _ = _; rw [size_hart]; simp [hH]
  have HS : Hid (35 = (((H.setIfInBounds 32 (.int .u32 next)).setIfInBounds 33 (.int .i64 st)).setIfInBounds 34 (.int .i64 ca)).size) := by show _ = _; simp [hH]
  have HN : Hid (Ones (((H.setIfInBounds 32 (.int .u32 next)).setIfInBounds 33 (.int .i64 st)).setIfInBounds 34 (.int .i64 ca))) := by
    show Ones _
    repeat refine Ones.set ?_ _ _ (by simp [Value.oneCell'])
    exact hO
  clear hH hO
  obtain ⟨i0, hi, hz0, hz1, hz2⟩ := info_parts info5
  have A : Hid (Lies w g o n f) := hl
  clear hl
  go_enter Tryd.func20, Tryd.ntmps20
  go_upto_region 6 with fail
  obtain ⟨W, hW⟩ : ∃ W : World, W = ((w.alloc (.cells (((H.setIfInBounds 32 (.int .u32 next)).setIfInBounds 33 (.int .i64 st)).setIfInBounds 34 (.int .i64 ca)) 34)).alloc (.cells (ccs pc next st ca 0 v a m L out told) 38)).alloc (.cells (hcs (fun _ => 0) 0 0 0) 34) := ⟨_, rfl⟩
  rw [← hW]
  have rH : W.heap[w.heap.size]? = some (.cells (((H.setIfInBounds 32 (.int .u32 next)).setIfInBounds 33 (.int .i64 st)).setIfInBounds 34 (.int .i64 ca)) 34 (0, 0)) := by rw [hW]; exact heap3_old0 _ _ _ _
  have rC : W.heap[w.heap.size + 1]? = some (.cells (ccs pc next st ca 0 v a m L out told) 38 (0, 0)) := by rw [hW]; exact heap3_mid _ _ _ _
  have rZ : W.heap[w.heap.size + 1 + 1]? = some (.cells (hcs (fun _ => 0) 0 0 0) 34 (0, 0)) := by rw [hW]; exact heap3_new0 _ _ _ _
  have hb : Below w.heap.size w W := by rw [hW]; exact (((Below.refl _ _).alloc (Nat.le_refl _) _).alloc (by simp) _).alloc (by simp; omega) _
  have hsz : w.heap.size + 3 ≤ W.heap.size := by rw [hW]; simp
  have A2 : Hid (Lies W g o n f) := A.out.below hb
  clear hW h32 h33 h34
  go_wp2_with (at_builtin; refine wpList_append_own _ rfl _ _ 35 rfl W.heap.size 5 i0 (.int .u8 0) 1 1 Tryd.underlying35 hi hz0 hz1 hz2 rfl (by decide) _ _ _ rfl (World.ownsRow_made W #[] 0 (Nat.le_refl _) (Nat.zero_le _) rfl) ⟨g, o, none⟩ n c ((List.range n).map fun i => Value.int .u8 (f i)) rfl ?qc1 ?qc2 ?qc3 ?qc4 ?qc5 ?qc6 ?_)
  case qc1 => simp
  case qc2 =>
    intro j u hj
    have hjn : j < n := by
      have := (List.getElem?_eq_some_iff.1 hj).1
      simpa using this
    have hbk := World.block_lt_of_cell? _ _ (A2.out j hjn)
    rw [((Below.refl W.heap.size W).alloc (Nat.le_refl _) _).cell (by rw [Go.WideShapes.add_plain]; exact hbk)]
    simp [hjn] at hj
    rw [← hj, Go.WideShapes.add_plain]
    exact A2.out j hjn
  case qc3 => intro u hu; obtain ⟨x, _, rfl⟩ := List.mem_map.1 hu; rfl
  case qc4 => unfold maxLen; omega
  case qc5 => omega
  case qc6 => simp
  intro v' w1 hown hgrow hnil
  have hown' : w1.ownsRow W.heap.size 5 1 v' n ((List.range n).map fun i => Value.int .u8 (f i)) := by simpa using hown
  obtain ⟨h, cap, rfl, hcap, hmax, hF⟩ := fr_of_own (by omega) hown'
  have hB : Below W.heap.size W w1 := ((Below.refl _ W).alloc (Nat.le_refl _) _).grown hgrow (by simp) (by intro k hk; simp [Value.ownBlock] at hk; omega)
  clear hown hgrow hnil hown' A A2 hi hz0 hz1 hz2
  have hs1 := hB.size
  have R34 : Hid (w1.heap[w.heap.size]? = some (.cells (((H.setIfInBounds 32 (.int .u32 next)).setIfInBounds 33 (.int .i64 st)).setIfInBounds 34 (.int .i64 ca)) 34 (0, 0))) := (hB.block _ (by omega)).trans rH
  have RZ : Hid (w1.heap[w.heap.size + 1 + 1]? = some (.cells (hcs (fun _ => 0) 0 0 0) 34 (0, 0))) := (hB.block _ (by omega)).trans rZ
  have rC1 := (hB.block (w.heap.size + 1) (by omega)).trans rC
  have k6 := (cell_of_row w1 (w.heap.size + 1) 6 _ _ _ rC1).trans rfl
  have k7 := (cell_of_row w1 (w.heap.size + 1) 7 _ _ _ rC1).trans rfl
  have k8 := (cell_of_row w1 (w.heap.size + 1) 8 _ _ _ rC1).trans rfl
  have hb1 : Below w.heap.size w w1 := hb.trans (hB.mono (by omega))
  clear rH rC rZ rC1
  have hh : w.heap.size + 3 ≤ h := by have := hF.base; omega
  have hF' : Fr w1 (w.heap.size + 3) h n f := hF.moved hh rfl (Nat.le_refl _)
  clear hF
  go_wp2_with fail
  go_loopw [9, 10] (fun t k wr => ∃ j : Nat, j ≤ m ∧ k = .int .i64 j ∧ t = .int .i64 (L / p256 j) ∧ Fr wr (w.heap.size + 3) h n (sto f a L j) ∧ Below (w.heap.size + 3) w1 wr) (fun _ k _ => m - (intOf k).toNat)
  case atStart => exact ⟨0, by omega, rfl, int_eq (by rw [show p256 0 = 1 from rfl, Int.ediv_one]), hF'.congr fun i _ => by unfold sto; rw [if_neg (by omega)], Below.refl _ _⟩
  case round =>
    obtain ⟨j, hj, rfl, rfl, hF, hB2⟩ := hrel
    have m6 := below_cell_at hB2 (by omega) k6
    have m7 := below_cell_at hB2 (by omega) k7
    have m8 := below_cell_at hB2 (by omega) k8
    by_cases hlt : j < m
    · have c0 := hF.cell (a + j) (by omega)
      have z0 := hF.free (a + j) (by omega)
      rcases (by omega : j = 0 ∨ j = 1 ∨ j = 2 ∨ j = 3) with rfl | rfl | rfl | rfl
      · rw [Nat.add_zero] at c0 z0
        rw [show p256 0 = 1 from rfl, Int.ediv_one]
        go_wp2
        refine ⟨⟨1, by omega, rfl, int_eq (rfl), hF.step (j := 0) (by omega) _ (by rw [show p256 0 = 1 from rfl, Int.ediv_one]), hB2.setCell (by omega) _⟩, by simp [intOf]; omega⟩
      · rw [show p256 1 = 256 from rfl]
        obtain ⟨T, hT⟩ : ∃ T, T = L / 256 := ⟨_, rfl⟩
        have tb : 0 ≤ T ∧ T ≤ 16777215 := by omega
        rw [← hT]
        have HT : Hid (T = L / 256) := hT
        clear hT
        go_wp2
        refine ⟨⟨2, by omega, rfl, int_eq (by have h' := HT.out; rw [show p256 2 = 65536 from rfl]; omega), hF.step (j := 1) (by omega) _ (by have h' := HT.out; rw [show p256 1 = 256 from rfl]; omega), hB2.setCell (by omega) _⟩, by simp [intOf]; omega⟩
      · rw [show p256 2 = 65536 from rfl]
        obtain ⟨T, hT⟩ : ∃ T, T = L / 65536 := ⟨_, rfl⟩
        have tb : 0 ≤ T ∧ T ≤ 65535 := by omega
        rw [← hT]
        have HT : Hid (T = L / 65536) := hT
        clear hT
        go_wp2
        refine ⟨⟨3, by omega, rfl, int_eq (by have h' := HT.out; rw [show p256 3 = 16777216 from rfl]; omega), hF.step (j := 2) (by omega) _ (by have h' := HT.out; rw [show p256 2 = 65536 from rfl]; omega), hB2.setCell (by omega) _⟩, by simp [intOf]; omega⟩
      · rw [show p256 3 = 16777216 from rfl]
        obtain ⟨T, hT⟩ : ∃ T, T = L / 16777216 := ⟨_, rfl⟩
        have tb : 0 ≤ T ∧ T ≤ 255 := by omega
        rw [← hT]
        have HT : Hid (T = L / 16777216) := hT
        clear hT
        go_wp2
        refine ⟨⟨4, by omega, rfl, int_eq (by have h' := HT.out; rw [show p256 4 = 4294967296 from rfl]; omega), hF.step (j := 3) (by omega) _ (by have h' := HT.out; rw [show p256 3 = 16777216 from rfl]; omega), hB2.setCell (by omega) _⟩, by simp [intOf]; omega⟩
    · obtain rfl : j = m := by omega
      obtain ⟨T, hT⟩ : ∃ T, T = L / p256 j := ⟨_, rfl⟩
      rw [← hT]
      clear hT
      have R34' : Hid (wr.heap[w.heap.size]? = some (.cells (((H.setIfInBounds 32 (.int .u32 next)).setIfInBounds 33 (.int .i64 st)).setIfInBounds 34 (.int .i64 ca)) 34 (0, 0))) := (hB2.block _ (by omega)).trans R34.out
      have RZ' : Hid (wr.heap[w.heap.size + 1 + 1]? = some (.cells (hcs (fun _ => 0) 0 0 0) 34 (0, 0))) := (hB2.block _ (by omega)).trans RZ.out
      go_upto_region 13 with fail
      go_wp2_with (first | (refine wpList_load_row rfl 34 _ rfl _ rfl 34 _ (0, 0) _ R34'.out Tryd.underlying34 rfl HI.out ?_) | (refine wpList_store_row rfl 34 _ _ rfl _ _ rfl rfl 34 (hcs (fun _ => 0) 0 0 0) RZ'.out HI.out HS.out HN.out ?_))
      refine bodyPost_ret (v := .tuple #[.agg (((H.setIfInBounds 32 (.int .u32 next)).setIfInBounds 33 (.int .i64 st)).setIfInBounds 34 (.int .i64 ca)), .slice (some ⟨h, 0, none⟩) n cap]) (results2c Tryd.results20 rfl rfl (run_loadVar_row (P := Tryd.prog) _ _ 34 34 _ (0, 0) _ (setRow_heap _ _ _ _ _ _ RZ'.out) Tryd.underlying34 rfl HI.out)) rfl ⟨⟨_, cap, rfl, (fun h => nomatch h), fun _ => ⟨h, rfl, hF.moved (by omega) (setRow_other _ _ _ _ (by omega)) (by simp)⟩⟩, below_row (hb1.trans (hB2.mono (by omega))) (by omega) _⟩

set_option maxRecDepth 20000 in
set_option maxHeartbeats 2000000 in
theorem kreplay_P1 (H : Array Value) (pc next st ca v told : Int) (rd : Nat) (R0 : Int) (out : Bool) (g o n c a m : Nat) (f : Nat → Int) (h0 : 0 < n) (hn : n ≤ 4096) (hm : m = 0 ∨ m = 1 ∨ m = 2 ∨ m = 4) (ham : m = 0 ∨ a + m ≤ n) (L : Int) (l0 : 0 ≤ L) (l1 : L ≤ 4294967295) (hH : H.size = 35) (hO : Ones H) (h32 : ∃ z, H[32]? = some (.int .u32 z)) (h33 : ∃ z, H[33]? = some (.int .i64 z)) (h34 : ∃ z, H[34]? = some (.int .i64 z)) (hR : H[rd]? = some (.int .u32 R0)) (lr : rd < 32) (hz : ((rd : Int) != 0) = true) (w : World) (hl : Lies w g o n f) :
    Calls Tryd.prog 20 #[.agg H, .slice (some ⟨g, o, none⟩) n c, cv pc next st ca rd v a m L out told] w fun e w' => (∃ p' cap, e = .returned (.tuple #[.agg ((((H.setIfInBounds 32 (.int .u32 next)).setIfInBounds 33 (.int .i64 st)).setIfInBounds 34 (.int .i64 ca)).setIfInBounds rd (.int .u32 v)), .slice p' n cap]) ∧ (p' = none → cap = 0) ∧ Own w' w.heap.size p' n (sto f a L m)) ∧ Below w.heap.size w w' := by
  obtain ⟨z2', h32⟩ := h32
  obtain ⟨z3', h33⟩ := h33
  obtain ⟨z4', h34⟩ := h34
  have HI : Hid ((Tryd.prog.info? 34).map (·.size) = some ((((H.setIfInBounds 32 (.int .u32 next)).setIfInBounds 33 (.int .i64 st)).setIfInBounds 34 (.int .i64 ca)).setIfInBounds rd (.int .u32 v)).size) := by show _ = _; rw [size_hart]; simp [hH]
  have HS : Hid (35 = ((((H.setIfInBounds 32 (.int .u32 next)).setIfInBounds 33 (.int .i64 st)).setIfInBounds 34 (.int .i64 ca)).setIfInBounds rd (.int .u32 v)).size) := by show _ = _; simp [hH]
  have HN : Hid (Ones ((((H.setIfInBounds 32 (.int .u32 next)).setIfInBounds 33 (.int .i64 st)).setIfInBounds 34 (.int .i64 ca)).setIfInBounds rd (.int .u32 v))) := by
    show Ones _
    repeat refine Ones.set ?_ _ _ (by simp [Value.oneCell'])
    exact hO
  have e32 : ¬ 32 = rd := by omega
  have e33 : ¬ 33 = rd := by omega
  have e34 : ¬ 34 = rd := by omega
  have f32 : ¬ rd = 32 := by omega
  have f33 : ¬ rd = 33 := by omega
  have f34 : ¬ rd = 34 := by omega
  have z1 : decide ((0 : Int) < (rd : Int)) = true := decide_eq_true (by simp at hz; omega)
  have z2 : decide ((rd : Int) < 32) = true := decide_eq_true (by omega)
  have z3 : 0 < rd := by simp at hz; omega
  have z4 : decide (0 < rd) = true := decide_eq_true z3
  have z5 : decide (rd < 32) = true := decide_eq_true lr
  have z6 : (0 : Int) < (rd : Int) := by omega
  have z7 : (rd : Int) < 32 := by omega
  clear hH hO
  obtain ⟨i0, hi, hz0, hz1, hz2⟩ := info_parts info5
  have A : Hid (Lies w g o n f) := hl
  clear hl
  go_enter Tryd.func20, Tryd.ntmps20
  go_upto_region 6 with fail
  obtain ⟨W, hW⟩ : ∃ W : World, W = ((w.alloc (.cells ((((H.setIfInBounds 32 (.int .u32 next)).setIfInBounds 33 (.int .i64 st)).setIfInBounds 34 (.int .i64 ca)).setIfInBounds rd (.int .u32 v)) 34)).alloc (.cells (ccs pc next st ca rd v a m L out told) 38)).alloc (.cells (hcs (fun _ => 0) 0 0 0) 34) := ⟨_, rfl⟩
  rw [← hW]
  have rH : W.heap[w.heap.size]? = some (.cells ((((H.setIfInBounds 32 (.int .u32 next)).setIfInBounds 33 (.int .i64 st)).setIfInBounds 34 (.int .i64 ca)).setIfInBounds rd (.int .u32 v)) 34 (0, 0)) := by rw [hW]; exact heap3_old0 _ _ _ _
  have rC : W.heap[w.heap.size + 1]? = some (.cells (ccs pc next st ca rd v a m L out told) 38 (0, 0)) := by rw [hW]; exact heap3_mid _ _ _ _
  have rZ : W.heap[w.heap.size + 1 + 1]? = some (.cells (hcs (fun _ => 0) 0 0 0) 34 (0, 0)) := by rw [hW]; exact heap3_new0 _ _ _ _
  have hb : Below w.heap.size w W := by rw [hW]; exact (((Below.refl _ _).alloc (Nat.le_refl _) _).alloc (by simp) _).alloc (by simp; omega) _
  have hsz : w.heap.size + 3 ≤ W.heap.size := by rw [hW]; simp
  have A2 : Hid (Lies W g o n f) := A.out.below hb
  clear hW h32 h33 h34 hR e32 e33 e34 f32 f33 f34 z1 z2 z3 z4 z5 z6 z7 hz lr
  go_wp2_with (at_builtin; refine wpList_append_own _ rfl _ _ 35 rfl W.heap.size 5 i0 (.int .u8 0) 1 1 Tryd.underlying35 hi hz0 hz1 hz2 rfl (by decide) _ _ _ rfl (World.ownsRow_made W #[] 0 (Nat.le_refl _) (Nat.zero_le _) rfl) ⟨g, o, none⟩ n c ((List.range n).map fun i => Value.int .u8 (f i)) rfl ?qc1 ?qc2 ?qc3 ?qc4 ?qc5 ?qc6 ?_)
  case qc1 => simp
  case qc2 =>
    intro j u hj
    have hjn : j < n := by
      have := (List.getElem?_eq_some_iff.1 hj).1
      simpa using this
    have hbk := World.block_lt_of_cell? _ _ (A2.out j hjn)
    rw [((Below.refl W.heap.size W).alloc (Nat.le_refl _) _).cell (by rw [Go.WideShapes.add_plain]; exact hbk)]
    simp [hjn] at hj
    rw [← hj, Go.WideShapes.add_plain]
    exact A2.out j hjn
  case qc3 => intro u hu; obtain ⟨x, _, rfl⟩ := List.mem_map.1 hu; rfl
  case qc4 => unfold maxLen; omega
  case qc5 => omega
  case qc6 => simp
  intro v' w1 hown hgrow hnil
  have hown' : w1.ownsRow W.heap.size 5 1 v' n ((List.range n).map fun i => Value.int .u8 (f i)) := by simpa using hown
  obtain ⟨h, cap, rfl, hcap, hmax, hF⟩ := fr_of_own (by omega) hown'
  have hB : Below W.heap.size W w1 := ((Below.refl _ W).alloc (Nat.le_refl _) _).grown hgrow (by simp) (by intro k hk; simp [Value.ownBlock] at hk; omega)
  clear hown hgrow hnil hown' A A2 hi hz0 hz1 hz2
  have hs1 := hB.size
  have R34 : Hid (w1.heap[w.heap.size]? = some (.cells ((((H.setIfInBounds 32 (.int .u32 next)).setIfInBounds 33 (.int .i64 st)).setIfInBounds 34 (.int .i64 ca)).setIfInBounds rd (.int .u32 v)) 34 (0, 0))) := (hB.block _ (by omega)).trans rH
  have RZ : Hid (w1.heap[w.heap.size + 1 + 1]? = some (.cells (hcs (fun _ => 0) 0 0 0) 34 (0, 0))) := (hB.block _ (by omega)).trans rZ
  have rC1 := (hB.block (w.heap.size + 1) (by omega)).trans rC
  have k6 := (cell_of_row w1 (w.heap.size + 1) 6 _ _ _ rC1).trans rfl
  have k7 := (cell_of_row w1 (w.heap.size + 1) 7 _ _ _ rC1).trans rfl
  have k8 := (cell_of_row w1 (w.heap.size + 1) 8 _ _ _ rC1).trans rfl
  have hb1 : Below w.heap.size w w1 := hb.trans (hB.mono (by omega))
  clear rH rC rZ rC1
  have hh : w.heap.size + 3 ≤ h := by have := hF.base; omega
  have hF' : Fr w1 (w.heap.size + 3) h n f := hF.moved hh rfl (Nat.le_refl _)
  clear hF
  go_wp2_with fail
  go_loopw [9, 10] (fun t k wr => ∃ j : Nat, j ≤ m ∧ k = .int .i64 j ∧ t = .int .i64 (L / p256 j) ∧ Fr wr (w.heap.size + 3) h n (sto f a L j) ∧ Below (w.heap.size + 3) w1 wr) (fun _ k _ => m - (intOf k).toNat)
  case atStart => exact ⟨0, by omega, rfl, int_eq (by rw [show p256 0 = 1 from rfl, Int.ediv_one]), hF'.congr fun i _ => by unfold sto; rw [if_neg (by omega)], Below.refl _ _⟩
  case round =>
    obtain ⟨j, hj, rfl, rfl, hF, hB2⟩ := hrel
    have m6 := below_cell_at hB2 (by omega) k6
    have m7 := below_cell_at hB2 (by omega) k7
    have m8 := below_cell_at hB2 (by omega) k8
    by_cases hlt : j < m
    · have c0 := hF.cell (a + j) (by omega)
      have z0 := hF.free (a + j) (by omega)
      rcases (by omega : j = 0 ∨ j = 1 ∨ j = 2 ∨ j = 3) with rfl | rfl | rfl | rfl
      · rw [Nat.add_zero] at c0 z0
        rw [show p256 0 = 1 from rfl, Int.ediv_one]
        go_wp2
        refine ⟨⟨1, by omega, rfl, int_eq (rfl), hF.step (j := 0) (by omega) _ (by rw [show p256 0 = 1 from rfl, Int.ediv_one]), hB2.setCell (by omega) _⟩, by simp [intOf]; omega⟩
      · rw [show p256 1 = 256 from rfl]
        obtain ⟨T, hT⟩ : ∃ T, T = L / 256 := ⟨_, rfl⟩
        have tb : 0 ≤ T ∧ T ≤ 16777215 := by omega
        rw [← hT]
        have HT : Hid (T = L / 256) := hT
        clear hT
        go_wp2
        refine ⟨⟨2, by omega, rfl, int_eq (by have h' := HT.out; rw [show p256 2 = 65536 from rfl]; omega), hF.step (j := 1) (by omega) _ (by have h' := HT.out; rw [show p256 1 = 256 from rfl]; omega), hB2.setCell (by omega) _⟩, by simp [intOf]; omega⟩
      · rw [show p256 2 = 65536 from rfl]
        obtain ⟨T, hT⟩ : ∃ T, T = L / 65536 := ⟨_, rfl⟩
        have tb : 0 ≤ T ∧ T ≤ 65535 := by omega
        rw [← hT]
        have HT : Hid (T = L / 65536) := hT
        clear hT
        go_wp2
        refine ⟨⟨3, by omega, rfl, int_eq (by have h' := HT.out; rw [show p256 3 = 16777216 from rfl]; omega), hF.step (j := 2) (by omega) _ (by have h' := HT.out; rw [show p256 2 = 65536 from rfl]; omega), hB2.setCell (by omega) _⟩, by simp [intOf]; omega⟩
      · rw [show p256 3 = 16777216 from rfl]
        obtain ⟨T, hT⟩ : ∃ T, T = L / 16777216 := ⟨_, rfl⟩
        have tb : 0 ≤ T ∧ T ≤ 255 := by omega
        rw [← hT]
        have HT : Hid (T = L / 16777216) := hT
        clear hT
        go_wp2
        refine ⟨⟨4, by omega, rfl, int_eq (by have h' := HT.out; rw [show p256 4 = 4294967296 from rfl]; omega), hF.step (j := 3) (by omega) _ (by have h' := HT.out; rw [show p256 3 = 16777216 from rfl]; omega), hB2.setCell (by omega) _⟩, by simp [intOf]; omega⟩
    · obtain rfl : j = m := by omega
      obtain ⟨T, hT⟩ : ∃ T, T = L / p256 j := ⟨_, rfl⟩
      rw [← hT]
      clear hT
      have R34' : Hid (wr.heap[w.heap.size]? = some (.cells ((((H.setIfInBounds 32 (.int .u32 next)).setIfInBounds 33 (.int .i64 st)).setIfInBounds 34 (.int .i64 ca)).setIfInBounds rd (.int .u32 v)) 34 (0, 0))) := (hB2.block _ (by omega)).trans R34.out
      have RZ' : Hid (wr.heap[w.heap.size + 1 + 1]? = some (.cells (hcs (fun _ => 0) 0 0 0) 34 (0, 0))) := (hB2.block _ (by omega)).trans RZ.out
      go_upto_region 13 with fail
      go_wp2_with (first | (refine wpList_load_row rfl 34 _ rfl _ rfl 34 _ (0, 0) _ R34'.out Tryd.underlying34 rfl HI.out ?_) | (refine wpList_store_row rfl 34 _ _ rfl _ _ rfl rfl 34 (hcs (fun _ => 0) 0 0 0) RZ'.out HI.out HS.out HN.out ?_))
      refine bodyPost_ret (v := .tuple #[.agg ((((H.setIfInBounds 32 (.int .u32 next)).setIfInBounds 33 (.int .i64 st)).setIfInBounds 34 (.int .i64 ca)).setIfInBounds rd (.int .u32 v)), .slice (some ⟨h, 0, none⟩) n cap]) (results2c Tryd.results20 rfl rfl (run_loadVar_row (P := Tryd.prog) _ _ 34 34 _ (0, 0) _ (setRow_heap _ _ _ _ _ _ RZ'.out) Tryd.underlying34 rfl HI.out)) rfl ⟨⟨_, cap, rfl, (fun h => nomatch h), fun _ => ⟨h, rfl, hF.moved (by omega) (setRow_other _ _ _ _ (by omega)) (by simp)⟩⟩, below_row (hb1.trans (hB2.mono (by omega))) (by omega) _⟩

set_option maxRecDepth 20000 in
set_option maxHeartbeats 2000000 in
theorem kreplay_S0 (H : Array Value) (pc next st ca v told : Int) (out : Bool) (ad : Addr) (c : Nat) (f : Nat → Int) (a L : Int) (hH : H.size = 35) (hO : Ones H) (h32 : ∃ z, H[32]? = some (.int .u32 z)) (h33 : ∃ z, H[33]? = some (.int .i64 z)) (h34 : ∃ z, H[34]? = some (.int .i64 z)) (w : World) :
    Calls Tryd.prog 20 #[.agg H, .slice (some ad) 0 c, cv pc next st ca 0 v a 0 L out told] w fun e w' => (∃ p' cap, e = .returned (.tuple #[.agg (((H.setIfInBounds 32 (.int .u32 next)).setIfInBounds 33 (.int .i64 st)).setIfInBounds 34 (.int .i64 ca)), .slice p' 0 cap]) ∧ (p' = none → cap = 0) ∧ Own w' w.heap.size p' 0 f) ∧ Below w.heap.size w w' := by
  obtain ⟨z2', h32⟩ := h32
  obtain ⟨z3', h33⟩ := h33
  obtain ⟨z4', h34⟩ := h34
  have HI : Hid ((Tryd.prog.info? 34).map (·.size) = some (((H.setIfInBounds 32 (.int .u32 next)).setIfInBounds 33 (.int .i64 st)).setIfInBounds 34 (.int .i64 ca)).size) := by show _ = _; rw [size_hart]; simp [hH]
  have HS : Hid (35 = (((H.setIfInBounds 32 (.int .u32 next)).setIfInBounds 33 (.int .i64 st)).setIfInBounds 34 (.int .i64 ca)).size) := by show _ = _; simp [hH]
  have HN : Hid (Ones (((H.setIfInBounds 32 (.int .u32 next)).setIfInBounds 33 (.int .i64 st)).setIfInBounds 34 (.int .i64 ca))) := by
    show Ones _
    repeat refine Ones.set ?_ _ _ (by simp [Value.oneCell'])
    exact hO
  clear hH hO
  obtain ⟨i0, hi, hz0, hz1, hz2⟩ := info_parts info5
  go_enter Tryd.func20, Tryd.ntmps20
  go_upto_region 6 with fail
  obtain ⟨W, hW⟩ : ∃ W : World, W = ((w.alloc (.cells (((H.setIfInBounds 32 (.int .u32 next)).setIfInBounds 33 (.int .i64 st)).setIfInBounds 34 (.int .i64 ca)) 34)).alloc (.cells (ccs pc next st ca 0 v a 0 L out told) 38)).alloc (.cells (hcs (fun _ => 0) 0 0 0) 34) := ⟨_, rfl⟩
  rw [← hW]
  have rH : W.heap[w.heap.size]? = some (.cells (((H.setIfInBounds 32 (.int .u32 next)).setIfInBounds 33 (.int .i64 st)).setIfInBounds 34 (.int .i64 ca)) 34 (0, 0)) := by rw [hW]; exact heap3_old0 _ _ _ _
  have rC : W.heap[w.heap.size + 1]? = some (.cells (ccs pc next st ca 0 v a 0 L out told) 38 (0, 0)) := by rw [hW]; exact heap3_mid _ _ _ _
  have rZ : W.heap[w.heap.size + 1 + 1]? = some (.cells (hcs (fun _ => 0) 0 0 0) 34 (0, 0)) := by rw [hW]; exact heap3_new0 _ _ _ _
  have hb : Below w.heap.size w W := by rw [hW]; exact (((Below.refl _ _).alloc (Nat.le_refl _) _).alloc (by simp) _).alloc (by simp; omega) _
  have hsz : w.heap.size + 3 ≤ W.heap.size := by rw [hW]; simp
  clear hW h32 h33 h34
  go_wp2_with (at_builtin; refine wpList_append_own _ rfl _ _ 35 rfl W.heap.size 5 i0 (.int .u8 0) 1 1 Tryd.underlying35 hi hz0 hz1 hz2 rfl (by decide) _ _ _ rfl (World.ownsRow_made W #[] 0 (Nat.le_refl _) (Nat.zero_le _) rfl) ad 0 c [] rfl ?qc1 ?qc2 ?qc3 ?qc4 ?qc5 ?qc6 ?_)
  case qc1 => simp
  case qc2 => intro j u hj; simp at hj
  case qc3 => intro u hu; cases hu
  case qc4 => unfold maxLen; omega
  case qc5 => omega
  case qc6 => simp
  intro v' w1 hown hgrow hnil
  obtain ⟨p', cap, hv, hpc⟩ : ∃ p' cap, v' = .slice p' 0 cap ∧ Hid (p' = none → cap = 0) := by
    obtain ⟨_, hcase⟩ := hown
    rcases hcase with ⟨h, _⟩ | ⟨g, cap', cur, h, _⟩
    · exact ⟨none, 0, h, fun _ => rfl⟩
    · exact ⟨_, _, h, fun h => nomatch h⟩
  subst hv
  have hB : Below W.heap.size W w1 := ((Below.refl _ W).alloc (Nat.le_refl _) _).grown hgrow (by simp) (by intro k hk; simp [Value.ownBlock] at hk; omega)
  clear hown hgrow hnil hi hz0 hz1 hz2
  have hs1 := hB.size
  have R34 : Hid (w1.heap[w.heap.size]? = some (.cells (((H.setIfInBounds 32 (.int .u32 next)).setIfInBounds 33 (.int .i64 st)).setIfInBounds 34 (.int .i64 ca)) 34 (0, 0))) := (hB.block _ (by omega)).trans rH
  have RZ : Hid (w1.heap[w.heap.size + 1 + 1]? = some (.cells (hcs (fun _ => 0) 0 0 0) 34 (0, 0))) := (hB.block _ (by omega)).trans rZ
  have rC1 := (hB.block (w.heap.size + 1) (by omega)).trans rC
  have k6 := (cell_of_row w1 (w.heap.size + 1) 6 _ _ _ rC1).trans rfl
  have k7 := (cell_of_row w1 (w.heap.size + 1) 7 _ _ _ rC1).trans rfl
  have k8 := (cell_of_row w1 (w.heap.size + 1) 8 _ _ _ rC1).trans rfl
  have hb1 : Below w.heap.size w w1 := hb.trans (hB.mono (by omega))
  clear rH rC rZ rC1
  go_wp2_with fail
  go_loopw [9, 10] (fun t k wr => k = .int .i64 0 ∧ wr = w1) (fun _ _ _ => 0)
  case atStart => exact ⟨rfl, rfl⟩
  case round =>
    obtain ⟨rfl, rfl⟩ := hrel
    go_upto_region 13 with fail
    go_wp2_with (first | (refine wpList_load_row rfl 34 _ rfl _ rfl 34 _ (0, 0) _ R34.out Tryd.underlying34 rfl HI.out ?_) | (refine wpList_store_row rfl 34 _ _ rfl _ _ rfl rfl 34 (hcs (fun _ => 0) 0 0 0) RZ.out HI.out HS.out HN.out ?_))
    refine bodyPost_ret (v := .tuple #[.agg (((H.setIfInBounds 32 (.int .u32 next)).setIfInBounds 33 (.int .i64 st)).setIfInBounds 34 (.int .i64 ca)), .slice p' 0 cap]) (results2c Tryd.results20 rfl rfl (run_loadVar_row (P := Tryd.prog) _ _ 34 34 _ (0, 0) _ (setRow_heap _ _ _ _ _ _ RZ.out) Tryd.underlying34 rfl HI.out)) rfl ⟨⟨_, cap, rfl, hpc.out, fun h => absurd h (by omega)⟩, below_row (hb1) (by omega) _⟩

set_option maxRecDepth 20000 in
set_option maxHeartbeats 2000000 in
theorem kreplay_S1 (H : Array Value) (pc next st ca v told : Int) (rd : Nat) (R0 : Int) (out : Bool) (ad : Addr) (c : Nat) (f : Nat → Int) (a L : Int) (hH : H.size = 35) (hO : Ones H) (h32 : ∃ z, H[32]? = some (.int .u32 z)) (h33 : ∃ z, H[33]? = some (.int .i64 z)) (h34 : ∃ z, H[34]? = some (.int .i64 z)) (hR : H[rd]? = some (.int .u32 R0)) (lr : rd < 32) (hz : ((rd : Int) != 0) = true) (w : World) :
    Calls Tryd.prog 20 #[.agg H, .slice (some ad) 0 c, cv pc next st ca rd v a 0 L out told] w fun e w' => (∃ p' cap, e = .returned (.tuple #[.agg ((((H.setIfInBounds 32 (.int .u32 next)).setIfInBounds 33 (.int .i64 st)).setIfInBounds 34 (.int .i64 ca)).setIfInBounds rd (.int .u32 v)), .slice p' 0 cap]) ∧ (p' = none → cap = 0) ∧ Own w' w.heap.size p' 0 f) ∧ Below w.heap.size w w' := by
  obtain ⟨z2', h32⟩ := h32
  obtain ⟨z3', h33⟩ := h33
  obtain ⟨z4', h34⟩ := h34
  have HI : Hid ((Tryd.prog.info? 34).map (·.size) = some ((((H.setIfInBounds 32 (.int .u32 next)).setIfInBounds 33 (.int .i64 st)).setIfInBounds 34 (.int .i64 ca)).setIfInBounds rd (.int .u32 v)).size) := by show _ = _; rw [size_hart]; simp [hH]
  have HS : Hid (35 = ((((H.setIfInBounds 32 (.int .u32 next)).setIfInBounds 33 (.int .i64 st)).setIfInBounds 34 (.int .i64 ca)).setIfInBounds rd (.int .u32 v)).size) := by show _ = _; simp [hH]
  have HN : Hid (Ones ((((H.setIfInBounds 32 (.int .u32 next)).setIfInBounds 33 (.int .i64 st)).setIfInBounds 34 (.int .i64 ca)).setIfInBounds rd (.int .u32 v))) := by
    show Ones _
    repeat refine Ones.set ?_ _ _ (by simp [Value.oneCell'])
    exact hO
  have e32 : ¬ 32 = rd := by omega
  have e33 : ¬ 33 = rd := by omega
  have e34 : ¬ 34 = rd := by omega
  have f32 : ¬ rd = 32 := by omega
  have f33 : ¬ rd = 33 := by omega
  have f34 : ¬ rd = 34 := by omega
  have z1 : decide ((0 : Int) < (rd : Int)) = true := decide_eq_true (by simp at hz; omega)
  have z2 : decide ((rd : Int) < 32) = true := decide_eq_true (by omega)
  have z3 : 0 < rd := by simp at hz; omega
  have z4 : decide (0 < rd) = true := decide_eq_true z3
  have z5 : decide (rd < 32) = true := decide_eq_true lr
  have z6 : (0 : Int) < (rd : Int) := by omega
  have z7 : (rd : Int) < 32 := by omega
  clear hH hO
  obtain ⟨i0, hi, hz0, hz1, hz2⟩ := info_parts info5
  go_enter Tryd.func20, Tryd.ntmps20
  go_upto_region 6 with fail
  obtain ⟨W, hW⟩ : ∃ W : World, W = ((w.alloc (.cells ((((H.setIfInBounds 32 (.int .u32 next)).setIfInBounds 33 (.int .i64 st)).setIfInBounds 34 (.int .i64 ca)).setIfInBounds rd (.int .u32 v)) 34)).alloc (.cells (ccs pc next st ca rd v a 0 L out told) 38)).alloc (.cells (hcs (fun _ => 0) 0 0 0) 34) := ⟨_, rfl⟩
  rw [← hW]
  have rH : W.heap[w.heap.size]? = some (.cells ((((H.setIfInBounds 32 (.int .u32 next)).setIfInBounds 33 (.int .i64 st)).setIfInBounds 34 (.int .i64 ca)).setIfInBounds rd (.int .u32 v)) 34 (0, 0)) := by rw [hW]; exact heap3_old0 _ _ _ _
  have rC : W.heap[w.heap.size + 1]? = some (.cells (ccs pc next st ca rd v a 0 L out told) 38 (0, 0)) := by rw [hW]; exact heap3_mid _ _ _ _
  have rZ : W.heap[w.heap.size + 1 + 1]? = some (.cells (hcs (fun _ => 0) 0 0 0) 34 (0, 0)) := by rw [hW]; exact heap3_new0 _ _ _ _
  have hb : Below w.heap.size w W := by rw [hW]; exact (((Below.refl _ _).alloc (Nat.le_refl _) _).alloc (by simp) _).alloc (by simp; omega) _
  have hsz : w.heap.size + 3 ≤ W.heap.size := by rw [hW]; simp
  clear hW h32 h33 h34 hR e32 e33 e34 f32 f33 f34 z1 z2 z3 z4 z5 z6 z7 hz lr
  go_wp2_with (at_builtin; refine wpList_append_own _ rfl _ _ 35 rfl W.heap.size 5 i0 (.int .u8 0) 1 1 Tryd.underlying35 hi hz0 hz1 hz2 rfl (by decide) _ _ _ rfl (World.ownsRow_made W #[] 0 (Nat.le_refl _) (Nat.zero_le _) rfl) ad 0 c [] rfl ?qc1 ?qc2 ?qc3 ?qc4 ?qc5 ?qc6 ?_)
  case qc1 => simp
  case qc2 => intro j u hj; simp at hj
  case qc3 => intro u hu; cases hu
  case qc4 => unfold maxLen; omega
  case qc5 => omega
  case qc6 => simp
  intro v' w1 hown hgrow hnil
  obtain ⟨p', cap, hv, hpc⟩ : ∃ p' cap, v' = .slice p' 0 cap ∧ Hid (p' = none → cap = 0) := by
    obtain ⟨_, hcase⟩ := hown
    rcases hcase with ⟨h, _⟩ | ⟨g, cap', cur, h, _⟩
    · exact ⟨none, 0, h, fun _ => rfl⟩
    · exact ⟨_, _, h, fun h => nomatch h⟩
  subst hv
  have hB : Below W.heap.size W w1 := ((Below.refl _ W).alloc (Nat.le_refl _) _).grown hgrow (by simp) (by intro k hk; simp [Value.ownBlock] at hk; omega)
  clear hown hgrow hnil hi hz0 hz1 hz2
  have hs1 := hB.size
  have R34 : Hid (w1.heap[w.heap.size]? = some (.cells ((((H.setIfInBounds 32 (.int .u32 next)).setIfInBounds 33 (.int .i64 st)).setIfInBounds 34 (.int .i64 ca)).setIfInBounds rd (.int .u32 v)) 34 (0, 0))) := (hB.block _ (by omega)).trans rH
  have RZ : Hid (w1.heap[w.heap.size + 1 + 1]? = some (.cells (hcs (fun _ => 0) 0 0 0) 34 (0, 0))) := (hB.block _ (by omega)).trans rZ
  have rC1 := (hB.block (w.heap.size + 1) (by omega)).trans rC
  have k6 := (cell_of_row w1 (w.heap.size + 1) 6 _ _ _ rC1).trans rfl
  have k7 := (cell_of_row w1 (w.heap.size + 1) 7 _ _ _ rC1).trans rfl
  have k8 := (cell_of_row w1 (w.heap.size + 1) 8 _ _ _ rC1).trans rfl
  have hb1 : Below w.heap.size w w1 := hb.trans (hB.mono (by omega))
  clear rH rC rZ rC1
  go_wp2_with fail
  go_loopw [9, 10] (fun t k wr => k = .int .i64 0 ∧ wr = w1) (fun _ _ _ => 0)
  case atStart => exact ⟨rfl, rfl⟩
  case round =>
    obtain ⟨rfl, rfl⟩ := hrel
    go_upto_region 13 with fail
    go_wp2_with (first | (refine wpList_load_row rfl 34 _ rfl _ rfl 34 _ (0, 0) _ R34.out Tryd.underlying34 rfl HI.out ?_) | (refine wpList_store_row rfl 34 _ _ rfl _ _ rfl rfl 34 (hcs (fun _ => 0) 0 0 0) RZ.out HI.out HS.out HN.out ?_))
    refine bodyPost_ret (v := .tuple #[.agg ((((H.setIfInBounds 32 (.int .u32 next)).setIfInBounds 33 (.int .i64 st)).setIfInBounds 34 (.int .i64 ca)).setIfInBounds rd (.int .u32 v)), .slice p' 0 cap]) (results2c Tryd.results20 rfl rfl (run_loadVar_row (P := Tryd.prog) _ _ 34 34 _ (0, 0) _ (setRow_heap _ _ _ _ _ _ RZ.out) Tryd.underlying34 rfl HI.out)) rfl ⟨⟨_, cap, rfl, hpc.out, fun h => absurd h (by omega)⟩, below_row (hb1) (by omega) _⟩

set_option maxRecDepth 20000 in
set_option maxHeartbeats 2000000 in
theorem kreplay_N0 (H : Array Value) (pc next st ca v told : Int) (out : Bool) (f : Nat → Int) (a L : Int) (hH : H.size = 35) (hO : Ones H) (h32 : ∃ z, H[32]? = some (.int .u32 z)) (h33 : ∃ z, H[33]? = some (.int .i64 z)) (h34 : ∃ z, H[34]? = some (.int .i64 z)) (w : World) :
    Calls Tryd.prog 20 #[.agg H, .slice none 0 0, cv pc next st ca 0 v a 0 L out told] w fun e w' => (∃ p' cap, e = .returned (.tuple #[.agg (((H.setIfInBounds 32 (.int .u32 next)).setIfInBounds 33 (.int .i64 st)).setIfInBounds 34 (.int .i64 ca)), .slice p' 0 cap]) ∧ (p' = none → cap = 0) ∧ Own w' w.heap.size p' 0 f) ∧ Below w.heap.size w w' := by
  obtain ⟨z2', h32⟩ := h32
  obtain ⟨z3', h33⟩ := h33
  obtain ⟨z4', h34⟩ := h34
  have HI : Hid ((Tryd.prog.info? 34).map (·.size) = some (((H.setIfInBounds 32 (.int .u32 next)).setIfInBounds 33 (.int .i64 st)).setIfInBounds 34 (.int .i64 ca)).size) := by show _ = _; rw [size_hart]; simp [hH]
  have HS : Hid (35 = (((H.setIfInBounds 32 (.int .u32 next)).setIfInBounds 33 (.int .i64 st)).setIfInBounds 34 (.int .i64 ca)).size) := by show _ = _; simp [hH]
  have HN : Hid (Ones (((H.setIfInBounds 32 (.int .u32 next)).setIfInBounds 33 (.int .i64 st)).setIfInBounds 34 (.int .i64 ca))) := by
    show Ones _
    repeat refine Ones.set ?_ _ _ (by simp [Value.oneCell'])
    exact hO
  clear hH hO
  obtain ⟨i0, hi, hz0, hz1, hz2⟩ := info_parts info5
  go_enter Tryd.func20, Tryd.ntmps20
  go_upto_region 6 with fail
  obtain ⟨W, hW⟩ : ∃ W : World, W = ((w.alloc (.cells (((H.setIfInBounds 32 (.int .u32 next)).setIfInBounds 33 (.int .i64 st)).setIfInBounds 34 (.int .i64 ca)) 34)).alloc (.cells (ccs pc next st ca 0 v a 0 L out told) 38)).alloc (.cells (hcs (fun _ => 0) 0 0 0) 34) := ⟨_, rfl⟩
  rw [← hW]
  have rH : W.heap[w.heap.size]? = some (.cells (((H.setIfInBounds 32 (.int .u32 next)).setIfInBounds 33 (.int .i64 st)).setIfInBounds 34 (.int .i64 ca)) 34 (0, 0)) := by rw [hW]; exact heap3_old0 _ _ _ _
  have rC : W.heap[w.heap.size + 1]? = some (.cells (ccs pc next st ca 0 v a 0 L out told) 38 (0, 0)) := by rw [hW]; exact heap3_mid _ _ _ _
  have rZ : W.heap[w.heap.size + 1 + 1]? = some (.cells (hcs (fun _ => 0) 0 0 0) 34 (0, 0)) := by rw [hW]; exact heap3_new0 _ _ _ _
  have hb : Below w.heap.size w W := by rw [hW]; exact (((Below.refl _ _).alloc (Nat.le_refl _) _).alloc (by simp) _).alloc (by simp; omega) _
  have hsz : w.heap.size + 3 ≤ W.heap.size := by rw [hW]; simp
  clear hW h32 h33 h34
  have k6 := (cell_of_row W (w.heap.size + 1) 6 _ _ _ rC).trans rfl
  have k7 := (cell_of_row W (w.heap.size + 1) 7 _ _ _ rC).trans rfl
  have k8 := (cell_of_row W (w.heap.size + 1) 8 _ _ _ rC).trans rfl
  have R34 : Hid (W.heap[w.heap.size]? = some (.cells (((H.setIfInBounds 32 (.int .u32 next)).setIfInBounds 33 (.int .i64 st)).setIfInBounds 34 (.int .i64 ca)) 34 (0, 0))) := rH
  have RZ : Hid (W.heap[w.heap.size + 1 + 1]? = some (.cells (hcs (fun _ => 0) 0 0 0) 34 (0, 0))) := rZ
  have hs5 : w.heap.size + 1 < W.heap.size := by omega
  clear rH rC rZ
  go_wp2_with (at_builtin; refine wpList_append_own_none rfl _ _ 35 rfl W.heap.size 5 i0 1 Tryd.underlying35 hi _ 0 [] rfl (World.ownsRow_made W #[] 0 (Nat.le_refl _) (Nat.zero_le _) rfl) rfl ?_)
  go_loopw [9, 10] (fun t k wr => k = .int .i64 0 ∧ wr = W.alloc (.cells #[] 5)) (fun _ _ _ => 0)
  case atStart => exact ⟨rfl, rfl⟩
  case round =>
    obtain ⟨rfl, rfl⟩ := hrel
    have R34' : Hid ((W.alloc (.cells #[] 5)).heap[w.heap.size]? = some (.cells (((H.setIfInBounds 32 (.int .u32 next)).setIfInBounds 33 (.int .i64 st)).setIfInBounds 34 (.int .i64 ca)) 34 (0, 0))) := (Below.heap_alloc _ _ _ (by omega)).trans R34.out
    have RZ' : Hid ((W.alloc (.cells #[] 5)).heap[w.heap.size + 1 + 1]? = some (.cells (hcs (fun _ => 0) 0 0 0) 34 (0, 0))) := (Below.heap_alloc _ _ _ (by omega)).trans RZ.out
    go_upto_region 13 with fail
    go_wp2_with (first | (refine wpList_load_row rfl 34 _ rfl _ rfl 34 _ (0, 0) _ R34'.out Tryd.underlying34 rfl HI.out ?_) | (refine wpList_store_row rfl 34 _ _ rfl _ _ rfl rfl 34 (hcs (fun _ => 0) 0 0 0) RZ'.out HI.out HS.out HN.out ?_))
    refine bodyPost_ret (v := .tuple #[.agg (((H.setIfInBounds 32 (.int .u32 next)).setIfInBounds 33 (.int .i64 st)).setIfInBounds 34 (.int .i64 ca)), .slice (some ⟨W.heap.size, 0, none⟩) 0 0]) (results2c Tryd.results20 rfl rfl (run_loadVar_row (P := Tryd.prog) _ _ 34 34 _ (0, 0) _ (setRow_heap _ _ _ _ _ _ RZ'.out) Tryd.underlying34 rfl HI.out)) rfl ⟨⟨_, 0, rfl, fun _ => rfl, fun h => absurd h (by omega)⟩, below_row (hb.alloc (by omega) _) (by omega) _⟩

set_option maxRecDepth 20000 in
set_option maxHeartbeats 2000000 in
theorem kreplay_N1 (H : Array Value) (pc next st ca v told : Int) (rd : Nat) (R0 : Int) (out : Bool) (f : Nat → Int) (a L : Int) (hH : H.size = 35) (hO : Ones H) (h32 : ∃ z, H[32]? = some (.int .u32 z)) (h33 : ∃ z, H[33]? = some (.int .i64 z)) (h34 : ∃ z, H[34]? = some (.int .i64 z)) (hR : H[rd]? = some (.int .u32 R0)) (lr : rd < 32) (hz : ((rd : Int) != 0) = true) (w : World) :
    Calls Tryd.prog 20 #[.agg H, .slice none 0 0, cv pc next st ca rd v a 0 L out told] w fun e w' => (∃ p' cap, e = .returned (.tuple #[.agg ((((H.setIfInBounds 32 (.int .u32 next)).setIfInBounds 33 (.int .i64 st)).setIfInBounds 34 (.int .i64 ca)).setIfInBounds rd (.int .u32 v)), .slice p' 0 cap]) ∧ (p' = none → cap = 0) ∧ Own w' w.heap.size p' 0 f) ∧ Below w.heap.size w w' := by
  obtain ⟨z2', h32⟩ := h32
  obtain ⟨z3', h33⟩ := h33
  obtain ⟨z4', h34⟩ := h34
  have HI : Hid ((Tryd.prog.info? 34).map (·.size) = some ((((H.setIfInBounds 32 (.int .u32 next)).setIfInBounds 33 (.int .i64 st)).setIfInBounds 34 (.int .i64 ca)).setIfInBounds rd (.int .u32 v)).size) := by show _ = _; rw [size_hart]; simp [hH]
  have HS : Hid (35 = ((((H.setIfInBounds 32 (.int .u32 next)).setIfInBounds 33 (.int .i64 st)).setIfInBounds 34 (.int .i64 ca)).setIfInBounds rd (.int .u32 v)).size) := by show _ = _; simp [hH]
  have HN : Hid (Ones ((((H.setIfInBounds 32 (.int .u32 next)).setIfInBounds 33 (.int .i64 st)).setIfInBounds 34 (.int .i64 ca)).setIfInBounds rd (.int .u32 v))) := by
    show Ones _
    repeat refine Ones.set ?_ _ _ (by simp [Value.oneCell'])
    exact hO
  have e32 : ¬ 32 = rd := by omega
  have e33 : ¬ 33 = rd := by omega
  have e34 : ¬ 34 = rd := by omega
  have f32 : ¬ rd = 32 := by omega
  have f33 : ¬ rd = 33 := by omega
  have f34 : ¬ rd = 34 := by omega
  have z1 : decide ((0 : Int) < (rd : Int)) = true := decide_eq_true (by simp at hz; omega)
  have z2 : decide ((rd : Int) < 32) = true := decide_eq_true (by omega)
  have z3 : 0 < rd := by simp at hz; omega
  have z4 : decide (0 < rd) = true := decide_eq_true z3
  have z5 : decide (rd < 32) = true := decide_eq_true lr
  have z6 : (0 : Int) < (rd : Int) := by omega
  have z7 : (rd : Int) < 32 := by omega
  clear hH hO
  obtain ⟨i0, hi, hz0, hz1, hz2⟩ := info_parts info5
  go_enter Tryd.func20, Tryd.ntmps20
  go_upto_region 6 with fail
  obtain ⟨W, hW⟩ : ∃ W : World, W = ((w.alloc (.cells ((((H.setIfInBounds 32 (.int .u32 next)).setIfInBounds 33 (.int .i64 st)).setIfInBounds 34 (.int .i64 ca)).setIfInBounds rd (.int .u32 v)) 34)).alloc (.cells (ccs pc next st ca rd v a 0 L out told) 38)).alloc (.cells (hcs (fun _ => 0) 0 0 0) 34) := ⟨_, rfl⟩
  rw [← hW]
  have rH : W.heap[w.heap.size]? = some (.cells ((((H.setIfInBounds 32 (.int .u32 next)).setIfInBounds 33 (.int .i64 st)).setIfInBounds 34 (.int .i64 ca)).setIfInBounds rd (.int .u32 v)) 34 (0, 0)) := by rw [hW]; exact heap3_old0 _ _ _ _
  have rC : W.heap[w.heap.size + 1]? = some (.cells (ccs pc next st ca rd v a 0 L out told) 38 (0, 0)) := by rw [hW]; exact heap3_mid _ _ _ _
  have rZ : W.heap[w.heap.size + 1 + 1]? = some (.cells (hcs (fun _ => 0) 0 0 0) 34 (0, 0)) := by rw [hW]; exact heap3_new0 _ _ _ _
  have hb : Below w.heap.size w W := by rw [hW]; exact (((Below.refl _ _).alloc (Nat.le_refl _) _).alloc (by simp) _).alloc (by simp; omega) _
  have hsz : w.heap.size + 3 ≤ W.heap.size := by rw [hW]; simp
  clear hW h32 h33 h34 hR e32 e33 e34 f32 f33 f34 z1 z2 z3 z4 z5 z6 z7 hz lr
  have k6 := (cell_of_row W (w.heap.size + 1) 6 _ _ _ rC).trans rfl
  have k7 := (cell_of_row W (w.heap.size + 1) 7 _ _ _ rC).trans rfl
  have k8 := (cell_of_row W (w.heap.size + 1) 8 _ _ _ rC).trans rfl
  have R34 : Hid (W.heap[w.heap.size]? = some (.cells ((((H.setIfInBounds 32 (.int .u32 next)).setIfInBounds 33 (.int .i64 st)).setIfInBounds 34 (.int .i64 ca)).setIfInBounds rd (.int .u32 v)) 34 (0, 0))) := rH
  have RZ : Hid (W.heap[w.heap.size + 1 + 1]? = some (.cells (hcs (fun _ => 0) 0 0 0) 34 (0, 0))) := rZ
  have hs5 : w.heap.size + 1 < W.heap.size := by omega
  clear rH rC rZ
  go_wp2_with (at_builtin; refine wpList_append_own_none rfl _ _ 35 rfl W.heap.size 5 i0 1 Tryd.underlying35 hi _ 0 [] rfl (World.ownsRow_made W #[] 0 (Nat.le_refl _) (Nat.zero_le _) rfl) rfl ?_)
  go_loopw [9, 10] (fun t k wr => k = .int .i64 0 ∧ wr = W.alloc (.cells #[] 5)) (fun _ _ _ => 0)
  case atStart => exact ⟨rfl, rfl⟩
  case round =>
    obtain ⟨rfl, rfl⟩ := hrel
    have R34' : Hid ((W.alloc (.cells #[] 5)).heap[w.heap.size]? = some (.cells ((((H.setIfInBounds 32 (.int .u32 next)).setIfInBounds 33 (.int .i64 st)).setIfInBounds 34 (.int .i64 ca)).setIfInBounds rd (.int .u32 v)) 34 (0, 0))) := (Below.heap_alloc _ _ _ (by omega)).trans R34.out
    have RZ' : Hid ((W.alloc (.cells #[] 5)).heap[w.heap.size + 1 + 1]? = some (.cells (hcs (fun _ => 0) 0 0 0) 34 (0, 0))) := (Below.heap_alloc _ _ _ (by omega)).trans RZ.out
    go_upto_region 13 with fail
    go_wp2_with (first | (refine wpList_load_row rfl 34 _ rfl _ rfl 34 _ (0, 0) _ R34'.out Tryd.underlying34 rfl HI.out ?_) | (refine wpList_store_row rfl 34 _ _ rfl _ _ rfl rfl 34 (hcs (fun _ => 0) 0 0 0) RZ'.out HI.out HS.out HN.out ?_))
    refine bodyPost_ret (v := .tuple #[.agg ((((H.setIfInBounds 32 (.int .u32 next)).setIfInBounds 33 (.int .i64 st)).setIfInBounds 34 (.int .i64 ca)).setIfInBounds rd (.int .u32 v)), .slice (some ⟨W.heap.size, 0, none⟩) 0 0]) (results2c Tryd.results20 rfl rfl (run_loadVar_row (P := Tryd.prog) _ _ 34 34 _ (0, 0) _ (setRow_heap _ _ _ _ _ _ RZ'.out) Tryd.underlying34 rfl HI.out)) rfl ⟨⟨_, 0, rfl, fun _ => rfl, fun h => absurd h (by omega)⟩, below_row (hb.alloc (by omega) _) (by omega) _⟩

end Go.Proofs.YtpiohehijkpghaaDoor
namespace Go.Proofs.YtpiohehijkpghaaDoor
open Go.RowKit
open Hy
set_option linter.unusedVariables false

theorem replaysS {W : World} {R : Nat → Int} {pc : Int} {p : Option Addr} {n c : Nat} {f : Nat → Int} (hn : n ≤ 4096) (hM : Mem W p n f) (hc : p = none → c = 0) {next st ca ri : Int} {rd : Nat} {v ai mi : Int} {a m : Nat} {data : Int} (d : Does n next st ca ri rd v ai mi a m data) (out : Bool) (told : Int) :
    Calls Tryd.prog 20 #[hv R pc 0 0, .slice p n c, cv pc next st ca ri v ai mi data out told] W fun e w' => (∃ p' cap, e = .returned (.tuple #[hv (upd R rd v) next st ca, .slice p' n cap]) ∧ (p' = none → cap = 0) ∧ Own w' W.heap.size p' n (sto f a data m)) ∧ Below W.heap.size W w' := by
  obtain ⟨er, ea, em, lr, hv0, hs, hm, d0, d1, _, _, _, _⟩ := d
  subst er ea em
  rcases Nat.eq_zero_or_pos n with rfl | h0
  · obtain rfl : m = 0 := by omega
    rw [sto0]
    cases p with
    | none =>
      obtain rfl := hc rfl
      by_cases hr : rd = 0
      · subst hr
        exact kreplay_N0 (hcs R pc 0 0) pc next st ca v told out f a data rfl (hcs_ones _ _ _ _) ⟨_, rfl⟩ ⟨_, rfl⟩ ⟨_, rfl⟩ W
      · refine (kreplay_N1 (hcs R pc 0 0) pc next st ca v told rd (R rd) out f a data rfl (hcs_ones _ _ _ _) ⟨_, rfl⟩ ⟨_, rfl⟩ ⟨_, rfl⟩ (hcs_reg _ _ _ _ _ lr) lr (by simp; omega) W).mono fun e w' ⟨⟨p', cap, he, hO⟩, hb⟩ => ⟨⟨p', cap, ?_, hO⟩, hb⟩
        rw [he, set32, set33, set34, setRd _ _ _ _ _ _ hr lr]
    | some ad =>
      by_cases hr : rd = 0
      · subst hr
        exact kreplay_S0 (hcs R pc 0 0) pc next st ca v told out ad c f a data rfl (hcs_ones _ _ _ _) ⟨_, rfl⟩ ⟨_, rfl⟩ ⟨_, rfl⟩ W
      · refine (kreplay_S1 (hcs R pc 0 0) pc next st ca v told rd (R rd) out ad c f a data rfl (hcs_ones _ _ _ _) ⟨_, rfl⟩ ⟨_, rfl⟩ ⟨_, rfl⟩ (hcs_reg _ _ _ _ _ lr) lr (by simp; omega) W).mono fun e w' ⟨⟨p', cap, he, hO⟩, hb⟩ => ⟨⟨p', cap, ?_, hO⟩, hb⟩
        rw [he, set32, set33, set34, setRd _ _ _ _ _ _ hr lr]
  · obtain ⟨g, q, rfl, hl⟩ := hM h0
    by_cases hr : rd = 0
    · subst hr
      exact kreplay_P0 (hcs R pc 0 0) pc next st ca v told out g q n c a m f h0 hn (by omega) (by omega) data d0 d1 rfl (hcs_ones _ _ _ _) ⟨_, rfl⟩ ⟨_, rfl⟩ ⟨_, rfl⟩ W hl
    · refine (kreplay_P1 (hcs R pc 0 0) pc next st ca v told rd (R rd) out g q n c a m f h0 hn (by omega) (by omega) data d0 d1 rfl (hcs_ones _ _ _ _) ⟨_, rfl⟩ ⟨_, rfl⟩ ⟨_, rfl⟩ (hcs_reg _ _ _ _ _ lr) lr (by simp; omega) W hl).mono fun e w' ⟨⟨p', cap, he, hO⟩, hb⟩ => ⟨⟨p', cap, ?_, hO⟩, hb⟩
      rw [he, set32, set33, set34, setRd _ _ _ _ _ _ hr lr]

theorem replays {w : World} {R : Nat → Int} {pc : Int} {p : Option Addr} {n c : Nat} {f : Nat → Int} (o : Ok w R pc p n c f) (hc : p = none → c = 0) {next st ca ri : Int} {rd : Nat} {v ai mi : Int} {a m : Nat} {data : Int} (d : Does n next st ca ri rd v ai mi a m data) (out : Bool) (told : Int) :
    ∀ W, Below w.heap.size w W → Calls Tryd.prog 20 #[hv R pc 0 0, .slice p n c, cv pc next st ca ri v ai mi data out told] W fun e w' => (∃ p' cap, e = .returned (.tuple #[hv (upd R rd v) next st ca, .slice p' n cap]) ∧ Own w' W.heap.size p' n (sto f a data m)) ∧ Below W.heap.size W w' := fun W hW => (replaysS o.hn (o.hm.below hW) hc d out told).mono fun e w' ⟨⟨p', cap, he, _, hO⟩, hb⟩ => ⟨⟨p', cap, he, hO⟩, hb⟩
end Go.Proofs.YtpiohehijkpghaaDoor
