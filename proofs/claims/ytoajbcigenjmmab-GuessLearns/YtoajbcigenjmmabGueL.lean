/- GuessLearns, walked. -/
import Derived.Test.YtoajbcigenjmmabGueT
namespace Go.Proofs.Ytoajbcigenjmmab
open Go.RowKit
open Hy
set_option linter.unusedVariables false
set_option linter.unusedSimpArgs false
theorem lS_range (P A S pc v : Int) (s0 : 0 ≤ S) (s1 : S ≤ 4294967295) : 0 ≤ lS P A S pc v ∧ lS P A S pc v ≤ 4294967295 := by
  unfold lS
  split
  · split <;> omega
  · omega
theorem up_range {f : Nat → Int} {n : Nat} (h : ∀ i, i < n → 0 ≤ f i ∧ f i ≤ 4294967295) (k : Nat) (x : Int) (hx : 0 ≤ x ∧ x ≤ 4294967295) : ∀ i, i < n → 0 ≤ up f k x i ∧ up f k x i ≤ 4294967295 := fun i hi => by
  unfold up
  split
  · exact hx
  · exact h i hi
theorem behindV_ok {t : Tb} (ht : TbOk t) (k : Nat) (hk : k < 8) (pc v : Int) (hp : 0 ≤ pc ∧ pc ≤ 4294967295) (hv : 0 ≤ v ∧ v ≤ 4294967295) : TbOk (behindV t k pc v) :=
  ⟨ht.G, up_range ht.P k pc hp, up_range ht.A k v hv, up_range ht.S k _ (lS_range _ _ _ _ _ (ht.S k hk).1 (ht.S k hk).2)⟩
theorem behindV_P (t : Tb) (k : Nat) (pc v : Int) : (behindV t k pc v).P k = pc := up_at _ _ _
theorem behindV_A (t : Tb) (k : Nat) (pc v : Int) : (behindV t k pc v).A k = v := up_at _ _ _
theorem behindV_S (t : Tb) (k : Nat) (pc v : Int) : (behindV t k pc v).S k = lS (t.P k) (t.A k) (t.S k) pc v := up_at _ _ _
theorem behindV_U (t : Tb) (k : Nat) (pc v : Int) : (behindV t k pc v).U k = lU (t.P k) (t.A k) (t.S k) (t.U k) pc v := up_at _ _ _
theorem bnd_more (n : Int) (m : Int) (h : m ≤ bnd n) (h2 : m ≤ 2) : m + 1 ≤ bnd (bnd n + 1) := by
  have := bnd_range n
  generalize bnd n = b at *
  unfold bnd
  split
  · omega
  · split <;> omega
theorem bnd_less (n : Int) (m : Int) (h : bnd n ≤ m) (h2 : 1 ≤ m) : bnd (bnd n - 1) ≤ m - 1 := by
  have := bnd_range n
  generalize bnd n = b at *
  unfold bnd
  split
  · omega
  · split <;> omega
theorem bnd_bnd (n : Int) : bnd (bnd n) = bnd n := by
  have := bnd_range n
  generalize bnd n = b at *
  unfold bnd
  split
  · omega
  · split <;> omega
theorem learnsV (t : Tb) (ht : TbOk t) (k : Nat) (hk : k < 8) (pc v by_ x2 x3 x4 : Int) (hv : 0 ≤ v ∧ v ≤ 4294967295) (hb : 0 ≤ by_ ∧ by_ ≤ 4294967295)
    (e2 : x2 = (v + by_) % 4294967296) (e3 : x3 = (v + 2 * by_) % 4294967296) (e4 : x4 = (v + 3 * by_) % 4294967296) :
    saysV (behindV (behindV (behindV (behindV t k pc v) k pc x2) k pc x3) k pc x4) k pc = true ∧
    isV (behindV (behindV (behindV (behindV t k pc v) k pc x2) k pc x3) k pc x4) k pc = (v + 4 * by_) % 4294967296 := by
  obtain ⟨t1, h1⟩ : ∃ t1, t1 = behindV t k pc v := ⟨_, rfl⟩
  have P1 : t1.P k = pc := by rw [h1]; exact behindV_P _ _ _ _
  have A1 : t1.A k = v := by rw [h1]; exact behindV_A _ _ _ _
  have S1 : 0 ≤ t1.S k ∧ t1.S k ≤ 4294967295 := by rw [h1, behindV_S]; exact lS_range _ _ _ _ _ (ht.S k hk).1 (ht.S k hk).2
  rw [← h1]
  obtain ⟨t2, h2⟩ : ∃ t2, t2 = behindV t1 k pc x2 := ⟨_, rfl⟩
  have P2 : t2.P k = pc := by rw [h2]; exact behindV_P _ _ _ _
  have A2 : t2.A k = x2 := by rw [h2]; exact behindV_A _ _ _ _
  have S2 : t2.S k = by_ := by
    rw [h2, behindV_S, P1, A1]
    unfold lS
    rw [if_pos rfl]
    split <;> omega
  rw [← h2]
  obtain ⟨t3, h3⟩ : ∃ t3, t3 = behindV t2 k pc x3 := ⟨_, rfl⟩
  have P3 : t3.P k = pc := by rw [h3]; exact behindV_P _ _ _ _
  have A3 : t3.A k = x3 := by rw [h3]; exact behindV_A _ _ _ _
  have c3 : x3 = (x2 + by_) % 4294967296 := by omega
  have S3 : t3.S k = by_ := by
    rw [h3, behindV_S, P2, A2, S2]
    unfold lS
    rw [if_pos rfl, if_pos c3]
  have U3 : 1 ≤ bnd (t3.U k) := by
    rw [h3, behindV_U, P2, A2, S2]
    unfold lU
    rw [if_pos rfl, if_pos c3, bnd_bnd]
    exact bnd_more _ 0 (bnd_range _).1 (by omega)
  rw [← h3]
  obtain ⟨t4, h4⟩ : ∃ t4, t4 = behindV t3 k pc x4 := ⟨_, rfl⟩
  have P4 : t4.P k = pc := by rw [h4]; exact behindV_P _ _ _ _
  have A4 : t4.A k = x4 := by rw [h4]; exact behindV_A _ _ _ _
  have c4 : x4 = (x3 + by_) % 4294967296 := by omega
  have S4 : t4.S k = by_ := by
    rw [h4, behindV_S, P3, A3, S3]
    unfold lS
    rw [if_pos rfl, if_pos c4]
  have U4 : 2 ≤ t4.U k := by
    rw [h4, behindV_U, P3, A3, S3]
    unfold lU
    rw [if_pos rfl, if_pos c4]
    exact bnd_more _ 1 U3 (by omega)
  rw [← h4]
  have hs : saysV t4 k pc = true := decide_eq_true ⟨P4, U4⟩
  refine ⟨hs, ?_⟩
  unfold isV
  rw [if_pos hs, A4, S4]
  omega
theorem behindB_yes_L (t : Tb) (k : Nat) (g : Int) : (behindB t k true g).L k = bnd (bnd (t.L k) + 1) := up_at _ _ _
theorem behindB_yes_G (t : Tb) (k : Nat) (g : Int) : (behindB t k true g).G k = g := up_at _ _ _
theorem behindB_no_L (t : Tb) (k : Nat) (g : Int) : (behindB t k false g).L k = bnd (bnd (t.L k) - 1) := up_at _ _ _
theorem learnsB (t : Tb) (k : Nat) (v g : Int) :
    saysB (behindB (behindB t k true v) k true v) k = true ∧ (behindB (behindB t k true v) k true v).G k = v ∧
    saysB (behindB (behindB (behindB (behindB (behindB t k true v) k true v) k false g) k false g) k false g) k = false := by
  have b1 : 1 ≤ bnd ((behindB t k true v).L k) := by
    rw [behindB_yes_L, bnd_bnd]
    exact bnd_more _ 0 (bnd_range _).1 (by omega)
  have b2 : 2 ≤ (behindB (behindB t k true v) k true v).L k := by
    rw [behindB_yes_L]
    exact bnd_more _ 1 b1 (by omega)
  refine ⟨decide_eq_true b2, behindB_yes_G _ _ _, ?_⟩
  generalize behindB (behindB t k true v) k true v = u
  have d1 : bnd ((behindB u k false g).L k) ≤ 2 := by
    rw [behindB_no_L, bnd_bnd]
    exact bnd_less _ 3 (bnd_range _).2 (by omega)
  have d2 : bnd ((behindB (behindB u k false g) k false g).L k) ≤ 1 := by
    rw [behindB_no_L, bnd_bnd]
    exact bnd_less _ 2 d1 (by omega)
  have d3 : (behindB (behindB (behindB u k false g) k false g) k false g).L k ≤ 0 := by
    rw [behindB_no_L]
    exact bnd_less _ 1 d2 (by omega)
  exact decide_eq_false (by omega)

set_option maxRecDepth 20000 in
set_option maxHeartbeats 1000000 in
theorem learns (t : Tb) (ht : TbOk t) (pc v g : Int) (p0 : 0 ≤ pc) (p1 : pc ≤ 4294967295) (v0 : 0 ≤ v) (v1 : v ≤ 4294967295) (g0 : 0 ≤ g) (g1 : g ≤ 4294967295) (w : World) :
    Calls Try.prog 4 #[.agg (tcs t), .int .u32 pc, .int .u32 v, .int .u32 g] w fun e w' => e = .returned (.bool true) ∧ Below w.heap.size w w' := by
  have hk : kw pc < 8 := by unfold kw; omega
  obtain ⟨x2, e2⟩ : ∃ x, x = (v + g) % 4294967296 := ⟨_, rfl⟩
  obtain ⟨x3, e3⟩ : ∃ x, x = (v + 2 * g) % 4294967296 := ⟨_, rfl⟩
  obtain ⟨x4, e4⟩ : ∃ x, x = (v + 3 * g) % 4294967296 := ⟨_, rfl⟩
  obtain ⟨l1, l2⟩ := learnsV t ht (kw pc) hk pc v g x2 x3 x4 ⟨v0, v1⟩ ⟨g0, g1⟩ e2 e3 e4
  obtain ⟨m1, m2, m3⟩ := learnsB t (kb pc) v g
  have c1 := gV t ht pc v p0 p1 v0 v1
  have ht1 := behindV_ok ht (kw pc) hk pc v ⟨p0, p1⟩ ⟨v0, v1⟩
  generalize behindV t (kw pc) pc v = t1 at *
  have c2 := gV t1 ht1 pc x2 p0 p1 (by omega) (by omega)
  have ht2 := behindV_ok ht1 (kw pc) hk pc x2 ⟨p0, p1⟩ (by omega)
  generalize behindV t1 (kw pc) pc x2 = t2 at *
  have c3 := gV t2 ht2 pc x3 p0 p1 (by omega) (by omega)
  have ht3 := behindV_ok ht2 (kw pc) hk pc x3 ⟨p0, p1⟩ (by omega)
  generalize behindV t2 (kw pc) pc x3 = t3 at *
  have c4 := gV t3 ht3 pc x4 p0 p1 (by omega) (by omega)
  have ht4 := behindV_ok ht3 (kw pc) hk pc x4 ⟨p0, p1⟩ (by omega)
  generalize behindV t3 (kw pc) pc x4 = t4 at *
  have c5 := gVa t4 ht4 pc p0 p1
  rw [l1, l2] at c5
  have d1 := gB t pc v p0 p1 true
  generalize behindB t (kb pc) true v = s1 at *
  have d2 := gB s1 pc v p0 p1 true
  generalize behindB s1 (kb pc) true v = s2 at *
  have d3 := gBr s2 pc p0 p1
  rw [m1, m2] at d3
  have d4 := gB s2 pc g p0 p1 false
  generalize behindB s2 (kb pc) false g = s3 at *
  have d5 := gB s3 pc g p0 p1 false
  generalize behindB s3 (kb pc) false g = s4 at *
  have d6 := gB s4 pc g p0 p1 false
  generalize behindB s4 (kb pc) false g = s5 at *
  have d7 := gBr s5 pc p0 p1
  rw [m3] at d7
  obtain ⟨z, hz⟩ : ∃ z, z = s5.G (kb pc) := ⟨_, rfl⟩
  rw [← hz] at d7
  clear l1 l2 m1 m2 m3 hz ht ht1 ht2 ht3 ht4 hk
  have q0 := tbl_tcs t
  have a1 := tbl_tcs t1
  have a2 := tbl_tcs t2
  have a3 := tbl_tcs t3
  have a4 := tbl_tcs t4
  have b1 := tbl_tcs s1
  have b2 := tbl_tcs s2
  have b3 := tbl_tcs s3
  have b4 := tbl_tcs s4
  have b5 := tbl_tcs s5
  generalize tcs t = T at *
  generalize tcs t1 = A1 at *
  generalize tcs t2 = A2 at *
  generalize tcs t3 = A3 at *
  generalize tcs t4 = A4 at *
  generalize tcs s1 = B1 at *
  generalize tcs s2 = B2 at *
  generalize tcs s3 = B3 at *
  generalize tcs s4 = B4 at *
  generalize tcs s5 = B5 at *
  have n0 : Hid (Tbl T) := q0
  have n1 : Hid (Tbl A1) := a1
  have n2 : Hid (Tbl A2) := a2
  have n3 : Hid (Tbl A3) := a3
  have n4 : Hid (Tbl A4) := a4
  have o1 : Hid (Tbl B1) := b1
  have o2 : Hid (Tbl B2) := b2
  have o3 : Hid (Tbl B3) := b3
  have o4 : Hid (Tbl B4) := b4
  have o5 : Hid (Tbl B5) := b5
  have E2 : Hid (x2 = (v + g) % 4294967296) := e2
  have E3 : Hid (x3 = (v + 2 * g) % 4294967296) := e3
  have E4 : Hid (x4 = (v + 3 * g) % 4294967296) := e4
  have f3 : (v + 2 * g % 4294967296) % 4294967296 = x3 := by omega
  have f4 : (v + 3 * g % 4294967296) % 4294967296 = x4 := by omega
  clear q0 a1 a2 a3 a4 b1 b2 b3 b4 b5 e2 e3 e4
  go_enter Try.func4, Try.ntmps4
  go_upto_region 1 with fail
  generalize hW : w.alloc (Obj.cells T 30) = W
  have HR0 : Hid (W.heap[w.heap.size]? = some (.cells T 30 (0, 0))) := by rw [← hW]; show _ = _; exact heap_alloc_new _ _
  have HB0 : Hid (Below w.heap.size w W) := by rw [← hW]; exact (Below.refl _ _).alloc (Nat.le_refl _) _
  clear hW
  go_wp2_with (refine wpList_load_row rfl 30 _ rfl _ rfl 30 _ (0, 0) _ HR0.out Try.underlying30 rfl n0.out.info ?_)
  refine (c1 _).mono ?_
  rintro e W1 ⟨rfl, hk⟩
  have HR1 : Hid (W1.heap[w.heap.size]? = some (.cells T 30 (0, 0))) := (hk.block _ (heap_lt HR0.out)).trans HR0.out
  have HB1 : Hid (Below w.heap.size w W1) := HB0.out.trans (hk.mono HB0.out.size)
  clear hk HR0 HB0
  go_upto_region 2 with (refine wpList_store_new rfl 30 _ _ rfl _ _ _ rfl rfl n1.out.info n1.out.size.symm n1.out.ones ?_; intro V1 ha hk)
  have HA2 : Hid (V1.heap[W1.heap.size]? = some (.cells A1 30 (0, 0))) := ha
  have HR2 : Hid (V1.heap[w.heap.size]? = some (.cells T 30 (0, 0))) := (hk.block _ (heap_lt HR1.out)).trans HR1.out
  have HB2 : Hid (Below w.heap.size w V1) := HB1.out.trans (hk.mono HB1.out.size)
  have hl : w.heap.size < W1.heap.size := heap_lt HR1.out
  clear ha hk HR1 HB1
  generalize W1.heap.size = a at *
  go_wp2_with (refine wpList_load_row rfl 30 _ rfl _ rfl 30 _ (0, 0) _ HA2.out Try.underlying30 rfl n1.out.info ?_)
  rw [← E2.out]
  refine (c2 _).mono ?_
  rintro e W2 ⟨rfl, hk⟩
  have HR3 : Hid (W2.heap[w.heap.size]? = some (.cells T 30 (0, 0))) := (hk.block _ (heap_lt HR2.out)).trans HR2.out
  have HA3 : Hid (W2.heap[a]? = some (.cells A1 30 (0, 0))) := (hk.block _ (heap_lt HA2.out)).trans HA2.out
  have HB3 : Hid (Below w.heap.size w W2) := HB2.out.trans (hk.mono HB2.out.size)
  clear hk HB2 HR2 HA2
  go_upto_region 3 with (refine wpList_store_row rfl 30 _ _ rfl _ _ rfl rfl 30 _ HA3.out n2.out.info (n1.out.size.trans n2.out.size.symm) n2.out.ones ?_)
  generalize hV : W2.setRow a A2 = V2 at *
  have HR4 : Hid (V2.heap[w.heap.size]? = some (.cells T 30 (0, 0))) := by rw [← hV]; show _ = _; exact (setRow_other _ _ _ _ (by omega)).trans HR3.out
  have HA4 : Hid (V2.heap[a]? = some (.cells A2 30 (0, 0))) := by rw [← hV]; show _ = _; exact setRow_heap _ _ _ _ _ _ HA3.out
  have HB4 : Hid (Below w.heap.size w V2) := by rw [← hV]; exact below_row HB3.out (by omega) _
  clear hV HB3 HR3 HA3
  go_wp2_with (refine wpList_load_row rfl 30 _ rfl _ rfl 30 _ (0, 0) _ HA4.out Try.underlying30 rfl n2.out.info ?_)
  rw [f3]
  refine (c3 _).mono ?_
  rintro e W3 ⟨rfl, hk⟩
  have HR5 : Hid (W3.heap[w.heap.size]? = some (.cells T 30 (0, 0))) := (hk.block _ (heap_lt HR4.out)).trans HR4.out
  have HA5 : Hid (W3.heap[a]? = some (.cells A2 30 (0, 0))) := (hk.block _ (heap_lt HA4.out)).trans HA4.out
  have HB5 : Hid (Below w.heap.size w W3) := HB4.out.trans (hk.mono HB4.out.size)
  clear hk HB4 HR4 HA4
  go_upto_region 4 with (refine wpList_store_row rfl 30 _ _ rfl _ _ rfl rfl 30 _ HA5.out n3.out.info (n2.out.size.trans n3.out.size.symm) n3.out.ones ?_)
  generalize hV : W3.setRow a A3 = V3 at *
  have HR6 : Hid (V3.heap[w.heap.size]? = some (.cells T 30 (0, 0))) := by rw [← hV]; show _ = _; exact (setRow_other _ _ _ _ (by omega)).trans HR5.out
  have HA6 : Hid (V3.heap[a]? = some (.cells A3 30 (0, 0))) := by rw [← hV]; show _ = _; exact setRow_heap _ _ _ _ _ _ HA5.out
  have HB6 : Hid (Below w.heap.size w V3) := by rw [← hV]; exact below_row HB5.out (by omega) _
  clear hV HB5 HR5 HA5
  go_wp2_with (refine wpList_load_row rfl 30 _ rfl _ rfl 30 _ (0, 0) _ HA6.out Try.underlying30 rfl n3.out.info ?_)
  rw [f4]
  refine (c4 _).mono ?_
  rintro e W4 ⟨rfl, hk⟩
  have HR7 : Hid (W4.heap[w.heap.size]? = some (.cells T 30 (0, 0))) := (hk.block _ (heap_lt HR6.out)).trans HR6.out
  have HA7 : Hid (W4.heap[a]? = some (.cells A3 30 (0, 0))) := (hk.block _ (heap_lt HA6.out)).trans HA6.out
  have HB7 : Hid (Below w.heap.size w W4) := HB6.out.trans (hk.mono HB6.out.size)
  clear hk HB6 HR6 HA6
  go_upto_region 5 with (refine wpList_store_row rfl 30 _ _ rfl _ _ rfl rfl 30 _ HA7.out n4.out.info (n3.out.size.trans n4.out.size.symm) n4.out.ones ?_)
  generalize hV : W4.setRow a A4 = V4 at *
  have HR8 : Hid (V4.heap[w.heap.size]? = some (.cells T 30 (0, 0))) := by rw [← hV]; show _ = _; exact (setRow_other _ _ _ _ (by omega)).trans HR7.out
  have HA8 : Hid (V4.heap[a]? = some (.cells A4 30 (0, 0))) := by rw [← hV]; show _ = _; exact setRow_heap _ _ _ _ _ _ HA7.out
  have HB8 : Hid (Below w.heap.size w V4) := by rw [← hV]; exact below_row HB7.out (by omega) _
  clear hV HB7 HR7 HA7
  go_wp2_with (refine wpList_load_row rfl 30 _ rfl _ rfl 30 _ (0, 0) _ HA8.out Try.underlying30 rfl n4.out.info ?_)
  refine (c5 _).mono ?_
  rintro e W5 ⟨rfl, hk⟩
  have HR9 : Hid (W5.heap[w.heap.size]? = some (.cells T 30 (0, 0))) := (hk.block _ (heap_lt HR8.out)).trans HR8.out
  have HB9 : Hid (Below w.heap.size w W5) := HB8.out.trans (hk.mono HB8.out.size)
  clear hk HB8 HR8
  clear HA8
  go_upto_region 6 with fail
  go_wp2_with (refine wpList_load_row rfl 30 _ rfl _ rfl 30 _ (0, 0) _ HR9.out Try.underlying30 rfl n0.out.info ?_)
  refine (d1 _).mono ?_
  rintro e W6 ⟨rfl, hk⟩
  have HR10 : Hid (W6.heap[w.heap.size]? = some (.cells T 30 (0, 0))) := (hk.block _ (heap_lt HR9.out)).trans HR9.out
  have HB10 : Hid (Below w.heap.size w W6) := HB9.out.trans (hk.mono HB9.out.size)
  clear hk HB9 HR9
  go_upto_region 7 with (refine wpList_store_new rfl 30 _ _ rfl _ _ _ rfl rfl o1.out.info o1.out.size.symm o1.out.ones ?_; intro V5 ha hk)
  have HC11 : Hid (V5.heap[W6.heap.size]? = some (.cells B1 30 (0, 0))) := ha
  have HB11 : Hid (Below w.heap.size w V5) := HB10.out.trans (hk.mono HB10.out.size)
  have hl2 : w.heap.size < W6.heap.size := heap_lt HR10.out
  clear ha hk HR10 HB10
  generalize W6.heap.size = b at *
  go_wp2_with (refine wpList_load_row rfl 30 _ rfl _ rfl 30 _ (0, 0) _ HC11.out Try.underlying30 rfl o1.out.info ?_)
  refine (d2 _).mono ?_
  rintro e W7 ⟨rfl, hk⟩
  have HC12 : Hid (W7.heap[b]? = some (.cells B1 30 (0, 0))) := (hk.block _ (heap_lt HC11.out)).trans HC11.out
  have HB12 : Hid (Below w.heap.size w W7) := HB11.out.trans (hk.mono HB11.out.size)
  clear hk HB11 HC11
  go_upto_region 8 with (refine wpList_store_row rfl 30 _ _ rfl _ _ rfl rfl 30 _ HC12.out o2.out.info (o1.out.size.trans o2.out.size.symm) o2.out.ones ?_)
  generalize hV : W7.setRow b B2 = V6 at *
  have HC13 : Hid (V6.heap[b]? = some (.cells B2 30 (0, 0))) := by rw [← hV]; show _ = _; exact setRow_heap _ _ _ _ _ _ HC12.out
  have HB13 : Hid (Below w.heap.size w V6) := by rw [← hV]; exact below_row HB12.out (by omega) _
  clear hV HB12 HC12
  go_wp2_with (refine wpList_load_row rfl 30 _ rfl _ rfl 30 _ (0, 0) _ HC13.out Try.underlying30 rfl o2.out.info ?_)
  refine (d3 _).mono ?_
  rintro e W8 ⟨rfl, hk⟩
  have HC14 : Hid (W8.heap[b]? = some (.cells B2 30 (0, 0))) := (hk.block _ (heap_lt HC13.out)).trans HC13.out
  have HB14 : Hid (Below w.heap.size w W8) := HB13.out.trans (hk.mono HB13.out.size)
  clear hk HB13 HC13
  go_upto_region 9 with fail
  go_wp2_with (refine wpList_load_row rfl 30 _ rfl _ rfl 30 _ (0, 0) _ HC14.out Try.underlying30 rfl o2.out.info ?_)
  refine (d4 _).mono ?_
  rintro e W9 ⟨rfl, hk⟩
  have HC15 : Hid (W9.heap[b]? = some (.cells B2 30 (0, 0))) := (hk.block _ (heap_lt HC14.out)).trans HC14.out
  have HB15 : Hid (Below w.heap.size w W9) := HB14.out.trans (hk.mono HB14.out.size)
  clear hk HB14 HC14
  go_upto_region 10 with (refine wpList_store_row rfl 30 _ _ rfl _ _ rfl rfl 30 _ HC15.out o3.out.info (o2.out.size.trans o3.out.size.symm) o3.out.ones ?_)
  generalize hV : W9.setRow b B3 = V7 at *
  have HC16 : Hid (V7.heap[b]? = some (.cells B3 30 (0, 0))) := by rw [← hV]; show _ = _; exact setRow_heap _ _ _ _ _ _ HC15.out
  have HB16 : Hid (Below w.heap.size w V7) := by rw [← hV]; exact below_row HB15.out (by omega) _
  clear hV HB15 HC15
  go_wp2_with (refine wpList_load_row rfl 30 _ rfl _ rfl 30 _ (0, 0) _ HC16.out Try.underlying30 rfl o3.out.info ?_)
  refine (d5 _).mono ?_
  rintro e W10 ⟨rfl, hk⟩
  have HC17 : Hid (W10.heap[b]? = some (.cells B3 30 (0, 0))) := (hk.block _ (heap_lt HC16.out)).trans HC16.out
  have HB17 : Hid (Below w.heap.size w W10) := HB16.out.trans (hk.mono HB16.out.size)
  clear hk HB16 HC16
  go_upto_region 11 with (refine wpList_store_row rfl 30 _ _ rfl _ _ rfl rfl 30 _ HC17.out o4.out.info (o3.out.size.trans o4.out.size.symm) o4.out.ones ?_)
  generalize hV : W10.setRow b B4 = V8 at *
  have HC18 : Hid (V8.heap[b]? = some (.cells B4 30 (0, 0))) := by rw [← hV]; show _ = _; exact setRow_heap _ _ _ _ _ _ HC17.out
  have HB18 : Hid (Below w.heap.size w V8) := by rw [← hV]; exact below_row HB17.out (by omega) _
  clear hV HB17 HC17
  go_wp2_with (refine wpList_load_row rfl 30 _ rfl _ rfl 30 _ (0, 0) _ HC18.out Try.underlying30 rfl o4.out.info ?_)
  refine (d6 _).mono ?_
  rintro e W11 ⟨rfl, hk⟩
  have HC19 : Hid (W11.heap[b]? = some (.cells B4 30 (0, 0))) := (hk.block _ (heap_lt HC18.out)).trans HC18.out
  have HB19 : Hid (Below w.heap.size w W11) := HB18.out.trans (hk.mono HB18.out.size)
  clear hk HB18 HC18
  go_upto_region 12 with (refine wpList_store_row rfl 30 _ _ rfl _ _ rfl rfl 30 _ HC19.out o5.out.info (o4.out.size.trans o5.out.size.symm) o5.out.ones ?_)
  generalize hV : W11.setRow b B5 = V9 at *
  have HC20 : Hid (V9.heap[b]? = some (.cells B5 30 (0, 0))) := by rw [← hV]; show _ = _; exact setRow_heap _ _ _ _ _ _ HC19.out
  have HB20 : Hid (Below w.heap.size w V9) := by rw [← hV]; exact below_row HB19.out (by omega) _
  clear hV HB19 HC19
  go_wp2_with (refine wpList_load_row rfl 30 _ rfl _ rfl 30 _ (0, 0) _ HC20.out Try.underlying30 rfl o5.out.info ?_)
  refine (d7 _).mono ?_
  rintro e W12 ⟨rfl, hk⟩
  have HB21 : Hid (Below w.heap.size w W12) := HB20.out.trans (hk.mono HB20.out.size)
  clear hk HB20 
  clear HC20
  go_upto_region 13 with fail
  have f5 : ((v + 4 * g) % 4294967296 == (v + 4 * g % 4294967296) % 4294967296) = true := by rw [beq_iff_eq]; omega
  go_wp2_with fail
  go_ret
  exact ⟨rfl, HB21.out⟩
end Go.Proofs.Ytoajbcigenjmmab
