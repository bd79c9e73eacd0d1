/- GuessTells, walked. -/
import Derived.Test.YtoajbcigenjmmabGueC
import Derived.Test.YtoajbcigenjmmabGueH
import Derived.Deep.RegionHeld
namespace Go.Proofs.Ytoajbcigenjmmab
open Go.RowKit
open Hy
set_option linter.unusedVariables false
set_option linter.unusedSimpArgs false
/-- A table's words are words. -/
structure TbOk (t : Tb) : Prop where
  G : ∀ i, i < 16 → 0 ≤ t.G i ∧ t.G i ≤ 4294967295
  P : ∀ i, i < 8 → 0 ≤ t.P i ∧ t.P i ≤ 4294967295
  A : ∀ i, i < 8 → 0 ≤ t.A i ∧ t.A i ≤ 4294967295
  S : ∀ i, i < 8 → 0 ≤ t.S i ∧ t.S i ≤ 4294967295
theorem tbl_tcs (t : Tb) : Tbl (tcs t) := ⟨rfl, by unfold Ones; simp [Value.oneCell']⟩
/-- What is behind a branch. -/
def behindB (t : Tb) (k : Nat) (tk : Bool) (g : Int) : Tb := if tk then { t with L := up t.L k (bnd (bnd (t.L k) + 1)), G := up t.G k g } else { t with L := up t.L k (bnd (bnd (t.L k) - 1)) }
/-- What is behind a word. -/
def behindV (t : Tb) (k : Nat) (pc v : Int) : Tb := { t with P := up t.P k pc, A := up t.A k v, S := up t.S k (lS (t.P k) (t.A k) (t.S k) pc v), U := up t.U k (lU (t.P k) (t.A k) (t.S k) (t.U k) pc v) }
/-- The counter's place. -/
abbrev kb (pc : Int) : Nat := (pc / 4 % 16).toNat
/-- The value's place. -/
abbrev kw (pc : Int) : Nat := (pc / 4 % 8).toNat
theorem gB (t : Tb) (pc tg : Int) (p0 : 0 ≤ pc) (p1 : pc ≤ 4294967295) (tk : Bool) (w : World) :
    Calls Try.prog 10 #[.agg (tcs t), .int .u32 pc, .bool tk, .int .u32 tg] w fun e w' => e = .returned (.agg (tcs (behindB t (kb pc) tk tg))) ∧ Below w.heap.size w w' := by
  have hk : kb pc < 16 := by unfold kb; omega
  have he : Hid ((kb pc : Int) = pc / 4 % 16) := by show _ = _; unfold kb; omega
  cases tk
  · have h := gLearnBranch_no (tcs t) (tbl_tcs t) pc tg p0 p1 (t.L (kb pc)) _ (kb pc) hk he rfl (tcs_L t _ hk) w
    rw [set_L t _ _ hk] at h
    exact h
  · have h := gLearnBranch_yes (tcs t) (tbl_tcs t) pc tg p0 p1 (t.L (kb pc)) (t.G (kb pc)) _ (kb pc) hk he rfl (tcs_L t _ hk) (tcs_G t _ hk) w
    rw [set_L t _ _ hk, set_G _ _ _ hk] at h
    exact h
theorem xB (t : Tb) (pc tg : Int) (p0 : 0 ≤ pc) (p1 : pc ≤ 4294967295) (tk : Bool) (w : World) :
    Calls Try.prog 12 #[.agg (tcs t), .int .u32 pc, .bool tk, .int .u32 tg] w fun e w' => e = .returned (.agg (tcs (behindB t (kb pc) tk tg))) ∧ Below w.heap.size w w' := by
  have hk : kb pc < 16 := by unfold kb; omega
  have he : Hid ((kb pc : Int) = pc / 4 % 16) := by show _ = _; unfold kb; omega
  cases tk
  · have h := xLearnBranch_no (tcs t) (tbl_tcs t) pc tg p0 p1 (t.L (kb pc)) _ (kb pc) hk he rfl (tcs_L t _ hk) w
    rw [set_L t _ _ hk] at h
    exact h
  · have h := xLearnBranch_yes (tcs t) (tbl_tcs t) pc tg p0 p1 (t.L (kb pc)) (t.G (kb pc)) _ (kb pc) hk he rfl (tcs_L t _ hk) (tcs_G t _ hk) w
    rw [set_L t _ _ hk, set_G _ _ _ hk] at h
    exact h
theorem gV (t : Tb) (ht : TbOk t) (pc v : Int) (p0 : 0 ≤ pc) (p1 : pc ≤ 4294967295) (v0 : 0 ≤ v) (v1 : v ≤ 4294967295) (w : World) :
    Calls Try.prog 11 #[.agg (tcs t), .int .u32 pc, .int .u32 v] w fun e w' => e = .returned (.agg (tcs (behindV t (kw pc) pc v))) ∧ Below w.heap.size w w' := by
  have hk : kw pc < 8 := by unfold kw; omega
  have he : Hid ((kw pc : Int) = pc / 4 % 8) := by show _ = _; unfold kw; omega
  have h := gLearnValue_any (tcs t) (tbl_tcs t) pc v p0 p1 v0 v1 (t.P (kw pc)) (t.A (kw pc)) (t.S (kw pc)) (t.U (kw pc)) _ _ (ht.A _ hk).1 (ht.A _ hk).2 (ht.S _ hk).1 (ht.S _ hk).2 (kw pc) hk he rfl rfl (tcs_P t _ hk) (tcs_A t _ hk) (tcs_S t _ hk) (tcs_U t _ hk) w
  rw [set_P t _ _ hk, set_A _ _ _ hk, set_S _ _ _ hk, set_U _ _ _ hk] at h
  exact h
theorem xV (t : Tb) (ht : TbOk t) (pc v : Int) (p0 : 0 ≤ pc) (p1 : pc ≤ 4294967295) (v0 : 0 ≤ v) (v1 : v ≤ 4294967295) (w : World) :
    Calls Try.prog 13 #[.agg (tcs t), .int .u32 pc, .int .u32 v] w fun e w' => e = .returned (.agg (tcs (behindV t (kw pc) pc v))) ∧ Below w.heap.size w w' := by
  have hk : kw pc < 8 := by unfold kw; omega
  have he : Hid ((kw pc : Int) = pc / 4 % 8) := by show _ = _; unfold kw; omega
  by_cases hp : t.P (kw pc) = pc
  · by_cases hv : v = (t.A (kw pc) + t.S (kw pc)) % 4294967296
    · have h := xLearnValue_next (tcs t) (tbl_tcs t) pc v p0 p1 v0 v1 (t.P (kw pc)) (t.A (kw pc)) (t.S (kw pc)) (t.U (kw pc)) _ _ (ht.A _ hk).1 (ht.A _ hk).2 (ht.S _ hk).1 (ht.S _ hk).2 (kw pc) hk he rfl rfl (tcs_P t _ hk) (tcs_A t _ hk) (tcs_S t _ hk) (tcs_U t _ hk) hp hv w
      rw [set_P t _ _ hk, set_A _ _ _ hk, set_S _ _ _ hk, set_U _ _ _ hk] at h
      exact h
    · have h := xLearnValue_new (tcs t) (tbl_tcs t) pc v p0 p1 v0 v1 (t.P (kw pc)) (t.A (kw pc)) (t.S (kw pc)) (t.U (kw pc)) _ _ (ht.A _ hk).1 (ht.A _ hk).2 (ht.S _ hk).1 (ht.S _ hk).2 (kw pc) hk he rfl rfl (tcs_P t _ hk) (tcs_A t _ hk) (tcs_S t _ hk) (tcs_U t _ hk) hp hv w
      rw [set_P t _ _ hk, set_A _ _ _ hk, set_S _ _ _ hk, set_U _ _ _ hk] at h
      exact h
  · have h := xLearnValue_other (tcs t) (tbl_tcs t) pc v p0 p1 v0 v1 (t.P (kw pc)) (t.A (kw pc)) (t.S (kw pc)) (t.U (kw pc)) _ _ (ht.A _ hk).1 (ht.A _ hk).2 (ht.S _ hk).1 (ht.S _ hk).2 (kw pc) hk he rfl rfl (tcs_P t _ hk) (tcs_A t _ hk) (tcs_S t _ hk) (tcs_U t _ hk) hp w
    rw [set_P t _ _ hk, set_A _ _ _ hk, set_S _ _ _ hk, set_U _ _ _ hk] at h
    exact h
/-- What is told of a branch. -/
def saysB (t : Tb) (k : Nat) : Bool := decide (2 ≤ t.L k)
/-- Whether a word is known. -/
def saysV (t : Tb) (k : Nat) (pc : Int) : Bool := decide (t.P k = pc ∧ 2 ≤ t.U k)
/-- What a word is. -/
def isV (t : Tb) (k : Nat) (pc : Int) : Int := if saysV t k pc then (t.A k + t.S k) % 4294967296 else 0
theorem gBr (t : Tb) (pc : Int) (p0 : 0 ≤ pc) (p1 : pc ≤ 4294967295) (w : World) :
    Calls Try.prog 6 #[.agg (tcs t), .int .u32 pc] w fun e w' => e = .returned (.tuple #[.bool (saysB t (kb pc)), .int .u32 (t.G (kb pc))]) ∧ Below w.heap.size w w' := by
  have hk : kb pc < 16 := by unfold kb; omega
  have he : Hid ((kb pc : Int) = pc / 4 % 16) := by show _ = _; unfold kb; omega
  exact gBranch_any (tcs t) pc p0 p1 _ _ _ (kb pc) hk he rfl (tcs_L t _ hk) (tcs_G t _ hk) w
theorem xBr (t : Tb) (pc : Int) (p0 : 0 ≤ pc) (p1 : pc ≤ 4294967295) (w : World) :
    Calls Try.prog 7 #[.agg (tcs t), .int .u32 pc] w fun e w' => e = .returned (.tuple #[.bool (saysB t (kb pc)), .int .u32 (t.G (kb pc))]) ∧ Below w.heap.size w w' := by
  have hk : kb pc < 16 := by unfold kb; omega
  have he : Hid ((kb pc : Int) = pc / 4 % 16) := by show _ = _; unfold kb; omega
  exact xBranch_any (tcs t) pc p0 p1 _ _ _ (kb pc) hk he rfl (tcs_L t _ hk) (tcs_G t _ hk) w
theorem gVa (t : Tb) (ht : TbOk t) (pc : Int) (p0 : 0 ≤ pc) (p1 : pc ≤ 4294967295) (w : World) :
    Calls Try.prog 8 #[.agg (tcs t), .int .u32 pc] w fun e w' => e = .returned (.tuple #[.int .u32 (isV t (kw pc) pc), .bool (saysV t (kw pc) pc)]) ∧ Below w.heap.size w w' := by
  have hk : kw pc < 8 := by unfold kw; omega
  have he : Hid ((kw pc : Int) = pc / 4 % 8) := by show _ = _; unfold kw; omega
  exact gValue_any (tcs t) pc p0 p1 _ _ _ _ _ _ (ht.A _ hk).1 (ht.A _ hk).2 (ht.S _ hk).1 (ht.S _ hk).2 (kw pc) hk he rfl rfl (tcs_P t _ hk) (tcs_A t _ hk) (tcs_S t _ hk) (tcs_U t _ hk) w
theorem xVa (t : Tb) (ht : TbOk t) (pc : Int) (p0 : 0 ≤ pc) (p1 : pc ≤ 4294967295) (w : World) :
    Calls Try.prog 9 #[.agg (tcs t), .int .u32 pc] w fun e w' => e = .returned (.tuple #[.int .u32 (isV t (kw pc) pc), .bool (saysV t (kw pc) pc)]) ∧ Below w.heap.size w w' := by
  have hk : kw pc < 8 := by unfold kw; omega
  have he : Hid ((kw pc : Int) = pc / 4 % 8) := by show _ = _; unfold kw; omega
  exact xValue_any (tcs t) pc p0 p1 _ _ _ _ _ _ (ht.A _ hk).1 (ht.A _ hk).2 (ht.S _ hk).1 (ht.S _ hk).2 (kw pc) hk he rfl rfl (tcs_P t _ hk) (tcs_A t _ hk) (tcs_S t _ hk) (tcs_U t _ hk) w

theorem heap_lt {w : World} {b : Nat} {o : Obj} (h : w.heap[b]? = some o) : b < w.heap.size := (Array.getElem?_eq_some_iff.1 h).1
theorem heap_alloc_new (w : World) (o : Obj) : (w.alloc o).heap[w.heap.size]? = some o := by
  show (w.heap.push o)[w.heap.size]? = some o
  simp

theorem yieldsIf_load_row {P : Program} {ops : Array Oper} {S : World → Prop} {op : Oper} {a : Act} (hw : Region.wanted op (yielded ops a.tmps) = true) (ty : TypeId) (x : Operand) (ho : op.op = .load ty x)
    (g : Nat) (hx : a.eval x = .pointer (some ⟨g, 0, none⟩)) (t : TypeId) (cs : Array Value) (fr : Nat × Nat) (d : TypeDesc) (hS : ∀ w, S w → w.heap[g]? = some (.cells cs t fr))
    (hu : P.underlying ty = some d) (hd : (match d with | .struct _ | .array _ _ => true | _ => false) = true) (hi : (P.info? ty).map (·.size) = some cs.size) : YieldsIf P ops S op (.agg cs) a :=
  .inl ⟨hw, fun w hw' => by
    unfold execOp
    simp only [ho, hx, Instr.loadAt, Instr.sureAddr, Sem.run_bind, Sem.run_pure, Result.andThen_ok, run_loadVar_row w g t ty cs fr d (hS w hw') hu hd hi]⟩
/-- A whole row into a new box: the world behind it as a letter. -/
theorem wpList_store_new {P : Program} {ops : Array Oper} {rest : List Oper} {o : Oper} {a : Act} {W : World} {Q : Exit → Act → World → Prop} (hgd : o.guard = none) (ty : TypeId) (x y : Operand) (ho : o.op = .store ty x y)
    (cells : Array Value) (t : TypeId) (old : Array Value) (hx : a.eval x = .pointer (some ⟨W.heap.size, 0, none⟩)) (hy : a.eval y = .agg cells)
    (hi : (P.info? ty).map (·.size) = some cells.size) (hold : old.size = cells.size) (h1 : cells.all (·.oneCell') = true)
    (h : ∀ V : World, V.heap[W.heap.size]? = some (.cells cells t (0, 0)) → Below W.heap.size W V → wpList P ops Q rest (a.put o.dst undef) V) : wpList P ops Q (o :: rest) a (W.alloc (.cells old t (0, 0))) :=
  wpList_store_row hgd ty x y ho W.heap.size cells hx hy t old (heap_alloc_new _ _) hi hold h1 (h _ (setRow_heap _ _ _ _ _ _ (heap_alloc_new _ _)) (below_row ((Below.refl _ _).alloc (Nat.le_refl _) _) (Nat.le_refl _) _))

set_option maxRecDepth 20000 in
set_option maxHeartbeats 1000000 in
theorem tells (t : Tb) (ht : TbOk t) (pc v : Int) (tk : Bool) (p0 : 0 ≤ pc) (p1 : pc ≤ 4294967295) (v0 : 0 ≤ v) (v1 : v ≤ 4294967295) (w : World) :
    Calls Try.prog 3 #[.agg (tcs t), .int .u32 pc, .bool tk, .int .u32 v] w fun e w' => e = .returned (.bool true) ∧ Below w.heap.size w w' := by
  have c1 := gBr t pc p0 p1
  have c2 := xBr t pc p0 p1
  have c3 := gVa t ht pc p0 p1
  have c4 := xVa t ht pc p0 p1
  have c5 := gB t pc v p0 p1 tk
  have c6 := xB t pc v p0 p1 tk
  have c7 := gV t ht pc v p0 p1 v0 v1
  have c8 := xV t ht pc v p0 p1 v0 v1
  have q1 := eq.eqlT (behindB t (kb pc) tk v)
  have q2 := eq.eqlT (behindV t (kw pc) pc v)
  obtain ⟨T, hT⟩ : ∃ T, T = tcs t := ⟨_, rfl⟩
  obtain ⟨T1, hT1⟩ : ∃ T, T = tcs (behindB t (kb pc) tk v) := ⟨_, rfl⟩
  obtain ⟨T2, hT2⟩ : ∃ T, T = tcs (behindV t (kw pc) pc v) := ⟨_, rfl⟩
  rw [← hT] at c1 c2 c3 c4 c5 c6 c7 c8 ⊢
  rw [← hT1] at c5 c6 q1
  rw [← hT2] at c7 c8 q2
  have n0 : Hid (Tbl T) := by rw [hT]; exact tbl_tcs _
  have n1 : Hid (Tbl T1) := by rw [hT1]; exact tbl_tcs _
  have n2 : Hid (Tbl T2) := by rw [hT2]; exact tbl_tcs _
  clear hT hT1 hT2
  obtain ⟨a, ha⟩ : ∃ a, a = saysB t (kb pc) := ⟨_, rfl⟩
  obtain ⟨g, hg⟩ : ∃ a, a = t.G (kb pc) := ⟨_, rfl⟩
  obtain ⟨i, hi⟩ : ∃ a, a = isV t (kw pc) pc := ⟨_, rfl⟩
  obtain ⟨s, hs⟩ : ∃ a, a = saysV t (kw pc) pc := ⟨_, rfl⟩
  rw [← ha, ← hg] at c1 c2
  rw [← hi, ← hs] at c3 c4
  clear ha hg hi hs
  go_enter Try.func3, Try.ntmps3
  go_upto_region 1 with fail
  generalize hW : w.alloc (Obj.cells T 30) = W
  have HR0 : Hid (W.heap[w.heap.size]? = some (.cells T 30 (0, 0))) := by rw [← hW]; show _ = _; exact heap_alloc_new _ _
  have HB0 : Hid (Below w.heap.size w W) := by rw [← hW]; exact (Below.refl _ _).alloc (Nat.le_refl _) _
  clear hW
  go_wp2_with (refine wpList_load_row rfl 30 _ rfl _ rfl 30 _ (0, 0) _ HR0.out Try.underlying30 rfl n0.out.info ?_)
  refine (c1 _).mono ?_
  rintro e W1 ⟨rfl, hk⟩
  have HR1 : Hid (W1.heap[w.heap.size]? = some (.cells T 30 (0, 0))) := (hk.block _ (heap_lt HR0.out)).trans HR0.out
  have HB1 : Hid (Below w.heap.size w W1) := HB0.out.trans (hk.mono HB0.out.size)
  clear hk HR0 HB0
  go_upto_region 2 with fail
  go_wp2_with (refine wpList_load_row rfl 30 _ rfl _ rfl 30 _ (0, 0) _ HR1.out Try.underlying30 rfl n0.out.info ?_)
  refine (c2 _).mono ?_
  rintro e W2 ⟨rfl, hk⟩
  have HR2 : Hid (W2.heap[w.heap.size]? = some (.cells T 30 (0, 0))) := (hk.block _ (heap_lt HR1.out)).trans HR1.out
  have HB2 : Hid (Below w.heap.size w W2) := HB1.out.trans (hk.mono HB1.out.size)
  clear hk HR1 HB1
  go_upto_region 3 with fail
  go_wp2_with (refine wpList_load_row rfl 30 _ rfl _ rfl 30 _ (0, 0) _ HR2.out Try.underlying30 rfl n0.out.info ?_)
  refine (c3 _).mono ?_
  rintro e W3 ⟨rfl, hk⟩
  have HR3 : Hid (W3.heap[w.heap.size]? = some (.cells T 30 (0, 0))) := (hk.block _ (heap_lt HR2.out)).trans HR2.out
  have HB3 : Hid (Below w.heap.size w W3) := HB2.out.trans (hk.mono HB2.out.size)
  clear hk HR2 HB2
  go_upto_region 4 with fail
  go_wp2_with (refine wpList_load_row rfl 30 _ rfl _ rfl 30 _ (0, 0) _ HR3.out Try.underlying30 rfl n0.out.info ?_)
  refine (c4 _).mono ?_
  rintro e W4 ⟨rfl, hk⟩
  have HR4 : Hid (W4.heap[w.heap.size]? = some (.cells T 30 (0, 0))) := (hk.block _ (heap_lt HR3.out)).trans HR3.out
  have HB4 : Hid (Below w.heap.size w W4) := HB3.out.trans (hk.mono HB3.out.size)
  clear hk HR3 HB3
  go_upto_region 5 with fail
  go_wp2_with (refine wpList_load_row rfl 30 _ rfl _ rfl 30 _ (0, 0) _ HR4.out Try.underlying30 rfl n0.out.info ?_)
  refine (c5 _).mono ?_
  rintro e W5 ⟨rfl, hk⟩
  have HR5 : Hid (W5.heap[w.heap.size]? = some (.cells T 30 (0, 0))) := (hk.block _ (heap_lt HR4.out)).trans HR4.out
  have HB5 : Hid (Below w.heap.size w W5) := HB4.out.trans (hk.mono HB4.out.size)
  clear hk HR4 HB4
  go_upto_region 6 with (refine wpList_store_new rfl 30 _ _ rfl _ _ _ rfl rfl n1.out.info n1.out.size.symm n1.out.ones ?_; intro V ha hk)
  have HA5 : Hid (V.heap[W5.heap.size]? = some (.cells T1 30 (0, 0))) := ha
  have HV5 : Hid (V.heap[w.heap.size]? = some (.cells T 30 (0, 0))) := (hk.block _ (heap_lt HR5.out)).trans HR5.out
  have HC5 : Hid (Below w.heap.size w V) := HB5.out.trans (hk.mono HB5.out.size)
  clear ha hk HR5 HB5
  generalize W5.heap.size = A5 at *
  go_wp2_with (refine wpList_load_row rfl 30 _ rfl _ rfl 30 _ (0, 0) _ HV5.out Try.underlying30 rfl n0.out.info ?_)
  refine (c7 _).mono ?_
  rintro e W6 ⟨rfl, hk⟩
  have HA6 : Hid (W6.heap[A5]? = some (.cells T1 30 (0, 0))) := (hk.block _ (heap_lt HA5.out)).trans HA5.out
  have HR6 : Hid (W6.heap[w.heap.size]? = some (.cells T 30 (0, 0))) := (hk.block _ (heap_lt HV5.out)).trans HV5.out
  have HB6 : Hid (Below w.heap.size w W6) := HC5.out.trans (hk.mono HC5.out.size)
  clear hk HA5 HV5 HC5
  go_upto_region 7 with (refine wpList_store_new rfl 30 _ _ rfl _ _ _ rfl rfl n2.out.info n2.out.size.symm n2.out.ones ?_; intro V2 ha hk)
  have HE7 : Hid (V2.heap[W6.heap.size]? = some (.cells T2 30 (0, 0))) := ha
  have HA7 : Hid (V2.heap[A5]? = some (.cells T1 30 (0, 0))) := (hk.block _ (heap_lt HA6.out)).trans HA6.out
  have HR7 : Hid (V2.heap[w.heap.size]? = some (.cells T 30 (0, 0))) := (hk.block _ (heap_lt HR6.out)).trans HR6.out
  have HB7 : Hid (Below w.heap.size w V2) := HB6.out.trans (hk.mono HB6.out.size)
  clear ha hk HR6 HA6 HB6
  generalize W6.heap.size = A6 at *
  refine wp_region_held_drew (S := fun w' => Below V2.heap.size V2 w') (by kernel_rfl) ((Below.refl _ _).drew) (fun hH => ?_)
  try simp only [Act.put, List.getElem_toArray, List.getElem_cons_succ, List.getElem_cons_zero, List.setIfInBounds_toArray, List.set_cons_zero, List.set_cons_succ]
  refine wpAnyH_take (i := 0) (v := .bool a) rfl (by kernel_rfl) (by kernel_rfl) (by kernel_rfl) (fun _ _ _ h => h) (Or.inl ⟨by rfl, by intro w hSw; go_simp⟩) hH ?_
  try simp only [Act.put, List.getElem_toArray, List.getElem_cons_succ, List.getElem_cons_zero, List.setIfInBounds_toArray, List.set_cons_zero, List.set_cons_succ]
  refine wpAnyH_take (i := 1) (v := .bool a) rfl (by kernel_rfl) (by kernel_rfl) (by kernel_rfl) (fun _ _ _ h => h) (Or.inl ⟨by rfl, by intro w hSw; go_simp⟩) hH ?_
  try simp only [Act.put, List.getElem_toArray, List.getElem_cons_succ, List.getElem_cons_zero, List.setIfInBounds_toArray, List.set_cons_zero, List.set_cons_succ]
  refine wpAnyH_take (i := 2) (v := .bool true) rfl (by kernel_rfl) (by kernel_rfl) (by kernel_rfl) (fun _ _ _ h => h) (Or.inl ⟨by rfl, by intro w hSw; go_simp⟩) hH ?_
  try simp only [Act.put, List.getElem_toArray, List.getElem_cons_succ, List.getElem_cons_zero, List.setIfInBounds_toArray, List.set_cons_zero, List.set_cons_succ]
  refine wpAnyH_take (i := 3) (v := .bool true) rfl (by kernel_rfl) (by kernel_rfl) (by kernel_rfl) (fun _ _ _ h => h) (Or.inl ⟨by rfl, by intro w hSw; go_simp⟩) hH ?_
  try simp only [Act.put, List.getElem_toArray, List.getElem_cons_succ, List.getElem_cons_zero, List.setIfInBounds_toArray, List.set_cons_zero, List.set_cons_succ]
  refine wpAnyH_take (i := 4) (v := .int .u32 g) rfl (by kernel_rfl) (by kernel_rfl) (by kernel_rfl) (fun _ _ _ h => h) (Or.inl ⟨by rfl, by intro w hSw; go_simp⟩) hH ?_
  try simp only [Act.put, List.getElem_toArray, List.getElem_cons_succ, List.getElem_cons_zero, List.setIfInBounds_toArray, List.set_cons_zero, List.set_cons_succ]
  refine wpAnyH_take (i := 5) (v := .int .u32 g) rfl (by kernel_rfl) (by kernel_rfl) (by kernel_rfl) (fun _ _ _ h => h) (Or.inl ⟨by rfl, by intro w hSw; go_simp⟩) hH ?_
  try simp only [Act.put, List.getElem_toArray, List.getElem_cons_succ, List.getElem_cons_zero, List.setIfInBounds_toArray, List.set_cons_zero, List.set_cons_succ]
  refine wpAnyH_take (i := 6) (v := .bool true) rfl (by kernel_rfl) (by kernel_rfl) (by kernel_rfl) (fun _ _ _ h => h) (Or.inl ⟨by rfl, by intro w hSw; go_simp⟩) hH ?_
  try simp only [Act.put, List.getElem_toArray, List.getElem_cons_succ, List.getElem_cons_zero, List.setIfInBounds_toArray, List.set_cons_zero, List.set_cons_succ]
  refine wpAnyH_take (i := 7) (v := .bool true) rfl (by kernel_rfl) (by kernel_rfl) (by kernel_rfl) (fun _ _ _ h => h) (Or.inl ⟨by rfl, by intro w hSw; go_simp⟩) hH ?_
  try simp only [Act.put, List.getElem_toArray, List.getElem_cons_succ, List.getElem_cons_zero, List.setIfInBounds_toArray, List.set_cons_zero, List.set_cons_succ]
  refine wpAnyH_take (i := 8) (v := .bool true) rfl (by kernel_rfl) (by kernel_rfl) (by kernel_rfl) (fun _ _ _ h => h) (Or.inl ⟨by rfl, by intro w hSw; go_simp⟩) hH ?_
  try simp only [Act.put, List.getElem_toArray, List.getElem_cons_succ, List.getElem_cons_zero, List.setIfInBounds_toArray, List.set_cons_zero, List.set_cons_succ]
  refine wpAnyH_take (i := 9) (v := .int .u32 i) rfl (by kernel_rfl) (by kernel_rfl) (by kernel_rfl) (fun _ _ _ h => h) (Or.inl ⟨by rfl, by intro w hSw; go_simp⟩) hH ?_
  try simp only [Act.put, List.getElem_toArray, List.getElem_cons_succ, List.getElem_cons_zero, List.setIfInBounds_toArray, List.set_cons_zero, List.set_cons_succ]
  refine wpAnyH_take (i := 10) (v := .int .u32 i) rfl (by kernel_rfl) (by kernel_rfl) (by kernel_rfl) (fun _ _ _ h => h) (Or.inl ⟨by rfl, by intro w hSw; go_simp⟩) hH ?_
  try simp only [Act.put, List.getElem_toArray, List.getElem_cons_succ, List.getElem_cons_zero, List.setIfInBounds_toArray, List.set_cons_zero, List.set_cons_succ]
  refine wpAnyH_take (i := 11) (v := .bool true) rfl (by kernel_rfl) (by kernel_rfl) (by kernel_rfl) (fun _ _ _ h => h) (Or.inl ⟨by rfl, by intro w hSw; go_simp⟩) hH ?_
  try simp only [Act.put, List.getElem_toArray, List.getElem_cons_succ, List.getElem_cons_zero, List.setIfInBounds_toArray, List.set_cons_zero, List.set_cons_succ]
  refine wpAnyH_take (i := 12) (v := .bool true) rfl (by kernel_rfl) (by kernel_rfl) (by kernel_rfl) (fun _ _ _ h => h) (Or.inl ⟨by rfl, by intro w hSw; go_simp⟩) hH ?_
  try simp only [Act.put, List.getElem_toArray, List.getElem_cons_succ, List.getElem_cons_zero, List.setIfInBounds_toArray, List.set_cons_zero, List.set_cons_succ]
  refine wpAnyH_take (i := 13) (v := .bool true) rfl (by kernel_rfl) (by kernel_rfl) (by kernel_rfl) (fun _ _ _ h => h) (Or.inl ⟨by rfl, by intro w hSw; go_simp⟩) hH ?_
  try simp only [Act.put, List.getElem_toArray, List.getElem_cons_succ, List.getElem_cons_zero, List.setIfInBounds_toArray, List.set_cons_zero, List.set_cons_succ]
  refine wpAnyH_take (i := 14) (v := .bool s) rfl (by kernel_rfl) (by kernel_rfl) (by kernel_rfl) (fun _ _ _ h => h) (Or.inl ⟨by rfl, by intro w hSw; go_simp⟩) hH ?_
  try simp only [Act.put, List.getElem_toArray, List.getElem_cons_succ, List.getElem_cons_zero, List.setIfInBounds_toArray, List.set_cons_zero, List.set_cons_succ]
  refine wpAnyH_take (i := 15) (v := .bool s) rfl (by kernel_rfl) (by kernel_rfl) (by kernel_rfl) (fun _ _ _ h => h) (Or.inl ⟨by rfl, by intro w hSw; go_simp⟩) hH ?_
  try simp only [Act.put, List.getElem_toArray, List.getElem_cons_succ, List.getElem_cons_zero, List.setIfInBounds_toArray, List.set_cons_zero, List.set_cons_succ]
  refine wpAnyH_take (i := 16) (v := .bool true) rfl (by kernel_rfl) (by kernel_rfl) (by kernel_rfl) (fun _ _ _ h => h) (Or.inl ⟨by rfl, by intro w hSw; go_simp⟩) hH ?_
  try simp only [Act.put, List.getElem_toArray, List.getElem_cons_succ, List.getElem_cons_zero, List.setIfInBounds_toArray, List.set_cons_zero, List.set_cons_succ]
  refine wpAnyH_take (i := 17) (v := .bool true) rfl (by kernel_rfl) (by kernel_rfl) (by kernel_rfl) (fun _ _ _ h => h) (Or.inl ⟨by rfl, by intro w hSw; go_simp⟩) hH ?_
  try simp only [Act.put, List.getElem_toArray, List.getElem_cons_succ, List.getElem_cons_zero, List.setIfInBounds_toArray, List.set_cons_zero, List.set_cons_succ]
  refine wpAnyH_take (i := 18) (v := .bool true) rfl (by kernel_rfl) (by kernel_rfl) (by kernel_rfl) (fun _ _ _ h => h) (Or.inl ⟨by rfl, by intro w hSw; go_simp⟩) hH ?_
  try simp only [Act.put, List.getElem_toArray, List.getElem_cons_succ, List.getElem_cons_zero, List.setIfInBounds_toArray, List.set_cons_zero, List.set_cons_succ]
  refine wpAnyH_take (i := 19) (v := .agg T1) rfl (by kernel_rfl) (by kernel_rfl) (by kernel_rfl) (fun _ _ _ h => h) (yieldsIf_load_row (by rfl) 30 _ rfl _ rfl 30 _ (0, 0) _ (fun w hSw => (hSw.block _ (heap_lt HA7.out)).trans HA7.out) Try.underlying30 rfl n1.out.info) hH ?_
  try simp only [Act.put, List.getElem_toArray, List.getElem_cons_succ, List.getElem_cons_zero, List.setIfInBounds_toArray, List.set_cons_zero, List.set_cons_succ]
  refine wpAnyH_take (i := 20) (v := .agg T) rfl (by kernel_rfl) (by kernel_rfl) (by kernel_rfl) (fun _ _ _ h => h) (yieldsIf_load_row (by rfl) 30 _ rfl _ rfl 30 _ (0, 0) _ (fun w hSw => (hSw.block _ (heap_lt HR7.out)).trans HR7.out) Try.underlying30 rfl n0.out.info) hH ?_
  try simp only [Act.put, List.getElem_toArray, List.getElem_cons_succ, List.getElem_cons_zero, List.setIfInBounds_toArray, List.set_cons_zero, List.set_cons_succ]
  refine wpAnyH_take (i := 21) (v := .int .u32 pc) rfl (by kernel_rfl) (by kernel_rfl) (by kernel_rfl) (fun _ _ _ h => h) (Or.inl ⟨by rfl, by intro w hSw; go_simp⟩) hH ?_
  try simp only [Act.put, List.getElem_toArray, List.getElem_cons_succ, List.getElem_cons_zero, List.setIfInBounds_toArray, List.set_cons_zero, List.set_cons_succ]
  refine wpAnyH_take (i := 22) (v := .bool tk) rfl (by kernel_rfl) (by kernel_rfl) (by kernel_rfl) (fun _ _ _ h => h) (Or.inl ⟨by rfl, by intro w hSw; go_simp⟩) hH ?_
  try simp only [Act.put, List.getElem_toArray, List.getElem_cons_succ, List.getElem_cons_zero, List.setIfInBounds_toArray, List.set_cons_zero, List.set_cons_succ]
  refine wpAnyH_take (i := 23) (v := .int .u32 v) rfl (by kernel_rfl) (by kernel_rfl) (by kernel_rfl) (fun _ _ _ h => h) (Or.inl ⟨by rfl, by intro w hSw; go_simp⟩) hH ?_
  try simp only [Act.put, List.getElem_toArray, List.getElem_cons_succ, List.getElem_cons_zero, List.setIfInBounds_toArray, List.set_cons_zero, List.set_cons_succ]
  refine wpAnyH_ready (rs := [24]) (by kernel_rfl) (by simp) ?_
  refine AllReadyH.cons rfl (fun K hK => ?_) AllReadyH.nil
  go_simp
  refine (c6 _).mono ?_
  rintro e W8 ⟨rfl, hk⟩
  go_wp2_with fail
  refine hK.out _ _ (hH.trans (hk.mono hH.size)) (fun hH => ?_)
  clear hK K
  try simp only [Act.put, List.getElem_toArray, List.getElem_cons_succ, List.getElem_cons_zero, List.setIfInBounds_toArray, List.set_cons_zero, List.set_cons_succ]
  refine wpAnyH_take (i := 25) (v := .bool true) rfl (by kernel_rfl) (by kernel_rfl) (by kernel_rfl) (fun _ _ _ h => h) (Or.inl ⟨by rfl, by intro w hSw; go_simp⟩) hH ?_
  try simp only [Act.put, List.getElem_toArray, List.getElem_cons_succ, List.getElem_cons_zero, List.setIfInBounds_toArray, List.set_cons_zero, List.set_cons_succ]
  refine wpAnyH_take (i := 26) (v := .bool true) rfl (by kernel_rfl) (by kernel_rfl) (by kernel_rfl) (fun _ _ _ h => h) (Or.inl ⟨by rfl, by intro w hSw; go_simp⟩) hH ?_
  try simp only [Act.put, List.getElem_toArray, List.getElem_cons_succ, List.getElem_cons_zero, List.setIfInBounds_toArray, List.set_cons_zero, List.set_cons_succ]
  refine wpAnyH_take (i := 27) (v := .bool true) rfl (by kernel_rfl) (by kernel_rfl) (by kernel_rfl) (fun _ _ _ h => h) (Or.inl ⟨by rfl, by intro w hSw; go_simp⟩) hH ?_
  try simp only [Act.put, List.getElem_toArray, List.getElem_cons_succ, List.getElem_cons_zero, List.setIfInBounds_toArray, List.set_cons_zero, List.set_cons_succ]
  refine wpAnyH_take (i := 28) (v := .agg T2) rfl (by kernel_rfl) (by kernel_rfl) (by kernel_rfl) (fun _ _ _ h => h) (yieldsIf_load_row (by rfl) 30 _ rfl _ rfl 30 _ (0, 0) _ (fun w hSw => (hSw.block _ (heap_lt HE7.out)).trans HE7.out) Try.underlying30 rfl n2.out.info) hH ?_
  try simp only [Act.put, List.getElem_toArray, List.getElem_cons_succ, List.getElem_cons_zero, List.setIfInBounds_toArray, List.set_cons_zero, List.set_cons_succ]
  refine wpAnyH_take (i := 29) (v := .agg T) rfl (by kernel_rfl) (by kernel_rfl) (by kernel_rfl) (fun _ _ _ h => h) (yieldsIf_load_row (by rfl) 30 _ rfl _ rfl 30 _ (0, 0) _ (fun w hSw => (hSw.block _ (heap_lt HR7.out)).trans HR7.out) Try.underlying30 rfl n0.out.info) hH ?_
  try simp only [Act.put, List.getElem_toArray, List.getElem_cons_succ, List.getElem_cons_zero, List.setIfInBounds_toArray, List.set_cons_zero, List.set_cons_succ]
  refine wpAnyH_take (i := 30) (v := .int .u32 pc) rfl (by kernel_rfl) (by kernel_rfl) (by kernel_rfl) (fun _ _ _ h => h) (Or.inl ⟨by rfl, by intro w hSw; go_simp⟩) hH ?_
  try simp only [Act.put, List.getElem_toArray, List.getElem_cons_succ, List.getElem_cons_zero, List.setIfInBounds_toArray, List.set_cons_zero, List.set_cons_succ]
  refine wpAnyH_take (i := 31) (v := .int .u32 v) rfl (by kernel_rfl) (by kernel_rfl) (by kernel_rfl) (fun _ _ _ h => h) (Or.inl ⟨by rfl, by intro w hSw; go_simp⟩) hH ?_
  try simp only [Act.put, List.getElem_toArray, List.getElem_cons_succ, List.getElem_cons_zero, List.setIfInBounds_toArray, List.set_cons_zero, List.set_cons_succ]
  refine wpAnyH_ready (rs := [32]) (by kernel_rfl) (by simp) ?_
  refine AllReadyH.cons rfl (fun K hK => ?_) AllReadyH.nil
  go_simp
  refine (c8 _).mono ?_
  rintro e W9 ⟨rfl, hk⟩
  go_wp2_with fail
  refine hK.out _ _ (hH.trans (hk.mono hH.size)) (fun hH => ?_)
  clear hK K
  try simp only [Act.put, List.getElem_toArray, List.getElem_cons_succ, List.getElem_cons_zero, List.setIfInBounds_toArray, List.set_cons_zero, List.set_cons_succ]
  refine wpAnyH_take (i := 33) (v := .bool true) rfl (by kernel_rfl) (by kernel_rfl) (by kernel_rfl) (fun _ _ _ h => h) (Or.inl ⟨by rfl, by intro w hSw; go_simp⟩) hH ?_
  try simp only [Act.put, List.getElem_toArray, List.getElem_cons_succ, List.getElem_cons_zero, List.setIfInBounds_toArray, List.set_cons_zero, List.set_cons_succ]
  refine wpAnyH_take (i := 34) (v := .bool true) rfl (by kernel_rfl) (by kernel_rfl) (by kernel_rfl) (fun _ _ _ h => h) (Or.inl ⟨by rfl, by intro w hSw; go_simp⟩) hH ?_
  try simp only [Act.put, List.getElem_toArray, List.getElem_cons_succ, List.getElem_cons_zero, List.setIfInBounds_toArray, List.set_cons_zero, List.set_cons_succ]
  refine wpAnyH_take (i := 35) (v := .bool true) rfl (by kernel_rfl) (by kernel_rfl) (by kernel_rfl) (fun _ _ _ h => h) (Or.inl ⟨by rfl, by intro w hSw; go_simp⟩) hH ?_
  try simp only [Act.put, List.getElem_toArray, List.getElem_cons_succ, List.getElem_cons_zero, List.setIfInBounds_toArray, List.set_cons_zero, List.set_cons_succ]
  refine wpAnyH_done (by kernel_rfl) ?_ _
  try simp only [Act.put, List.getElem_toArray, List.getElem_cons_succ, List.getElem_cons_zero, List.setIfInBounds_toArray, List.set_cons_zero, List.set_cons_succ]
  have HF : Hid (Below w.heap.size w W9) := HB7.out.trans (hH.mono HB7.out.size)
  go_wp2_with fail
  go_ret
  exact ⟨rfl, HF.out⟩
end Go.Proofs.Ytoajbcigenjmmab
