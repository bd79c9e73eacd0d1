/- Push and Done: the program. -/
import Derived.Test.YtfhckpeenkaiiabWinC
namespace Go.Proofs.Ytfhckpeenkaiiab
open Go.RowKit
set_option linter.unusedVariables false
theorem own_base {w : World} {base base' : Nat} {e : TypeId} {size : Nat} {v : Value} {n : Nat} {xs : List Value} (h : w.ownsRow base e size v n xs) (hb : base' ≤ base) : w.ownsRow base' e size v n xs := by
  obtain ⟨h1, h2⟩ := h
  refine ⟨h1, ?_⟩
  rcases h2 with h2 | ⟨g, cap, cur, hv, hg, r⟩
  · exact .inl h2
  · exact .inr ⟨g, cap, cur, hv, Nat.le_trans hb hg, r⟩
theorem own_move {w w' : World} {base : Nat} {e : TypeId} {size : Nat} {v : Value} {n : Nat} {xs : List Value} (h : w.ownsRow base e size v n xs) (hb : ∀ g, v.ownBlock = some g → w'.heap[g]? = w.heap[g]?) : w'.ownsRow base e size v n xs := by
  obtain ⟨h1, h2⟩ := h
  refine ⟨h1, ?_⟩
  rcases h2 with h2 | ⟨g, cap, cur, hv, hg, hh, r⟩
  · exact .inl h2
  · exact .inr ⟨g, cap, cur, hv, hg, (hb g (by rw [hv]; rfl)).trans hh, r⟩
theorem own_below {w w' : World} {base : Nat} {e : TypeId} {size : Nat} {v : Value} {n : Nat} {xs : List Value} (h : w.ownsRow base e size v n xs) {B : Nat} (hB : w.heap.size ≤ B) (hb : Below B w w') : w'.ownsRow base e size v n xs :=
  own_move h fun g hg => hb.block g (Nat.lt_of_lt_of_le (h.lt g hg).2 hB)
theorem owns_slice' {w : World} {base : Nat} {e : TypeId} {size : Nat} {v : Value} {n : Nat} {xs : List Value} (h : w.ownsRow base e size v n xs) : ∃ lp lc, v = .slice lp n lc := by
  rcases h.2 with ⟨hv, rfl⟩ | ⟨g, cap, cur, hv, _⟩
  · exact ⟨_, _, hv⟩
  · exact ⟨_, _, hv⟩
theorem one_box {Φ : World → Prop} {w : World} {A : Obj} (h : ∀ W : World, W.heap[w.heap.size]? = some A → Below w.heap.size w W → Φ W) : Φ (w.alloc A) :=
  h _ (heap_alloc_new _ _) ((Below.refl _ _).alloc (Nat.le_refl _) _)
theorem two_boxes {Φ : World → Prop} {w : World} {A B : Obj} (h : ∀ W : World, W.heap[w.heap.size]? = some A → W.heap[w.heap.size + 1]? = some B → Below w.heap.size w W → w.heap.size + 2 ≤ W.heap.size → Φ W) : Φ ((w.alloc A).alloc B) :=
  h _ (heap_alloc2_old _ _ _) (heap_alloc2_new _ _ _) (((Below.refl _ _).alloc (Nat.le_refl _) _).alloc (by simp) _) (by simp)
theorem lc_box {w : World} {g n size : Nat} {t : TypeId} {cs : List Value} (h : w.heap[g]? = some (.cells cs.toArray t (0, 0))) (h1 : ∀ u ∈ cs, u.oneCell' = true) (hl : cs.length = n * size) (hm : n ≤ maxLen := by unfold maxLen; omega) : LC w (some ⟨g, 0, none⟩) n n size cs :=
  ⟨hl, Nat.le_refl _, hm, fun h => (nomatch h), h1, fun x hx _ => ⟨g, 0, (Option.some.inj hx).symm, (Array.getElem?_eq_some_iff.1 h).1, fun j u hj => by
    rw [cell_of_row _ _ _ _ _ _ h]
    simpa using hj⟩⟩
theorem own_some {w : World} {B e n size : Nat} {v : Value} {cs : List Value} (hown : w.ownsRow B e size v n cs) (hn : 0 < n) : ∃ g cap, v = .slice (some ⟨g, 0, none⟩) n cap := by
  rcases hown.2 with ⟨_, h⟩ | ⟨g, cap, cur, h, _⟩
  · omega
  · exact ⟨g, cap, h⟩
/-- A slice of slots and a word are answered, in new memory. -/
def Gives (w : World) (l : List Sl) (ok : Bool) (e : Ending) (w' : World) : Prop :=
  (∃ a c, e = .returned (.tuple #[.slice a l.length c, .bool ok]) ∧ LC w' a l.length c 2 (scs l) ∧ FarC w.heap.size a) ∧ Below w.heap.size w w'
theorem gives_no {w w' : World} {e : Ending} (he : e = .returned (.tuple #[.slice none 0 0, .bool false])) (hb : Below w.heap.size w w') : Gives w [] false e w' :=
  ⟨⟨none, 0, he, lc_none _ _, farC_none _⟩, hb⟩
theorem gives_own {w w' : World} {v : Value} {l : List Sl} {n : Nat} (hn : l.length = n) (hown : w'.ownsRow w.heap.size 67 2 v n (scs l)) (hb : Below w.heap.size w w') : Gives w l true (.returned (.tuple #[v, .bool true])) w' := by
  subst hn
  obtain ⟨a, c, rfl, h1, h2⟩ := lc_of_own hown (scs_one l)
  exact ⟨⟨a, c, rfl, h1, h2⟩, hb⟩
set_option maxRecDepth 20000 in
theorem pPush_full (a : Option Addr) (n c : Nat) (room seq : Int) (h : room ≤ n) (w : World) :
    Calls Try.prog 30 #[.slice a n c, .int .i64 room, .int .i64 seq] w fun e w' => Gives w [] false e w' := by
  have h1 : decide (room ≤ (n : Int)) = true := by simpa using h
  go_enter Try.func30, Try.ntmps30
  go_wp2_with fail
  refine bodyPost_ret (v := .tuple #[.slice none 0 0, .bool false]) ?_ rfl (gives_no rfl (Below.refl _ _))
  simp [results, Try.results30, asAddr]
set_option maxRecDepth 20000 in
set_option maxHeartbeats 1000000 in
theorem pPush_there (a : Option Addr) (n c : Nat) (room seq : Int) (h : n < room) (l : List Sl) (m : Nat) (hm : Hid (First (above seq) l m)) (hmn : m < n) (hn : n * 16 ≤ 140737488355328) (w : World) (hL : Hid (LC w a n c 2 (scs l))) :
    Calls Try.prog 30 #[.slice a n c, .int .i64 room, .int .i64 seq] w fun e w' => Gives w [] false e w' := by
  have h1 : decide (room ≤ (n : Int)) = false := by simpa using h
  go_enter Try.func30, Try.ntmps30
  go_wp2_with fail
  refine (pfrom_any seq _).mono ?_
  rintro e W1 ⟨rfl, hc, hb⟩
  have HB : Hid (Below w.heap.size w W1) := hb
  have HA : Hid (Asks 68 w.heap.size (above seq) W1) := asks_from _ _ _ hc
  clear hc hb
  go_wp2_with fail
  refine (sContainsFunc_any 68 w.heap.size (above seq) eg_from a n c (by omega) l m hm true (show _ = _ by simpa using hmn) W1 (hL.out.below (Nat.le_refl _) HB.out) HA).mono ?_
  rintro e W2 ⟨rfl, hb⟩
  have HB2 : Hid (Below w.heap.size w W2) := HB.out.trans (hb.mono HB.out.size)
  clear hb HB
  go_wp2_with fail
  refine bodyPost_ret (v := .tuple #[.slice none 0 0, .bool false]) ?_ rfl (gives_no rfl HB2.out)
  simp [results, Try.results30, asAddr]
set_option maxRecDepth 20000 in
set_option maxHeartbeats 1000000 in
theorem pPush_yes (a : Option Addr) (n c : Nat) (room seq : Int) (h : n < room) (l : List Sl) (hm : Hid (First (above seq) l n)) (hn : n * 16 + 16 ≤ 140737488355328) (w : World) (hL : Hid (LC w a n c 2 (scs l))) :
    Calls Try.prog 30 #[.slice a n c, .int .i64 room, .int .i64 seq] w fun e w' => Gives w (l ++ [(seq, false)]) true e w' := by
  have h1 : decide (room ≤ (n : Int)) = false := by simpa using h
  have hlen : Hid (l.length = n) := by have := hL.out.len; rw [scs_len] at this; show _ = _; omega
  go_enter Try.func30, Try.ntmps30
  go_wp2_with fail
  refine (pfrom_any seq _).mono ?_
  rintro e W1 ⟨rfl, hc, hb⟩
  have HB : Hid (Below w.heap.size w W1) := hb
  have HA : Hid (Asks 68 w.heap.size (above seq) W1) := asks_from _ _ _ hc
  clear hc hb
  go_wp2_with fail
  refine (sContainsFunc_any 68 w.heap.size (above seq) eg_from a n c (by omega) l n hm false (show _ = _ by simp) W1 (hL.out.below (Nat.le_refl _) HB.out) HA).mono ?_
  rintro e W2 ⟨rfl, hb⟩
  have HB2 : Hid (Below w.heap.size w W2) := HB.out.trans (hb.mono HB.out.size)
  clear hb HB
  go_wp2_with fail
  refine two_boxes (Φ := fun W => Calls _ _ _ W _) ?_
  intro V hV1 hV2 hVb hVs
  have q0 : V.cell? ⟨W2.heap.size + 1, 0, none⟩ = some (.slice a n c) := (cell_of_row _ _ _ _ _ _ hV2).trans rfl
  have q1 : V.cell? ⟨W2.heap.size + 1, 1, none⟩ = some (.slice (some ⟨W2.heap.size, 0, none⟩) 1 1) := (cell_of_row _ _ _ _ _ _ hV2).trans rfl
  have HV : Hid (Below w.heap.size w V) := HB2.out.trans (hVb.mono HB2.out.size)
  have L2 : Hid (LC V (some ⟨W2.heap.size, 0, none⟩) 1 1 2 (scs [(seq, false)])) := lc_box hV1 (scs_one [(seq, false)]) rfl
  have hq : W2.heap.size + 1 < V.heap.size := (Array.getElem?_eq_some_iff.1 hV2).1
  refine (sConcat_two (W2.heap.size + 1) a (some ⟨W2.heap.size, 0, none⟩) n c 1 1 (scs l) (scs [(seq, false)]) (by omega) V hq q0 q1 (hL.out.below (Nat.le_refl _) HV.out) L2).mono ?_
  rintro e W3 ⟨⟨v, rfl, hown⟩, hb⟩
  have HB3 : Hid (Below w.heap.size w W3) := HV.out.trans (hb.mono HV.out.size)
  have HO : Hid (W3.ownsRow w.heap.size 67 2 v (n + 1) (scs (l ++ [(seq, false)]))) := by rw [scs_app]; exact own_base hown HV.out.size
  clear hb hown hV1 hV2 hVb hVs q0 q1 HV L2 hq HB2
  go_wp2_with fail
  refine bodyPost_ret (v := .tuple #[v, .bool true]) ?_ rfl (gives_own (by simp [hlen.out]) HO.out HB3.out)
  simp [results, Try.results30, asAddr]
set_option maxRecDepth 20000 in
set_option maxHeartbeats 1000000 in
theorem pDone_no (a : Option Addr) (n c : Nat) (seq : Int) (l : List Sl) (hm : Hid (First (waits seq) l n)) (hn : n * 16 ≤ 140737488355328) (w : World) (hL : Hid (LC w a n c 2 (scs l))) :
    Calls Try.prog 32 #[.slice a n c, .int .i64 seq] w fun e w' => Gives w [] false e w' := by
  have hmf : ∀ (fn : Fn) (first cap : Array Value) (w : World), (Instr.makeFunc fn first cap).run Try.prog w = .ok (.func fn first cap) w := fun _ _ _ _ => rfl
  go_enter Try.func32, Try.ntmps32
  go_wp2_with fail
  refine one_box (Φ := fun W => Calls _ _ _ W _) ?_
  intro V hV hVb
  have HV : Hid (Below w.heap.size w V) := hVb
  have HA : Hid (Asks 62 w.heap.size (waits seq) V) := asks_waits _ _ _ ((cell_of_row _ _ _ _ _ _ hV).trans rfl)
  clear hV hVb
  refine (sIndexFunc_any 62 w.heap.size (waits seq) eg_waits a n c (by omega) l n hm (-1) (show _ = _ by simp) V (hL.out.below (Nat.le_refl _) HV.out) HA).mono ?_
  rintro e W1 ⟨rfl, hb⟩
  have HB : Hid (Below w.heap.size w W1) := HV.out.trans (hb.mono HV.out.size)
  clear hb HV HA
  go_wp2_with fail
  refine bodyPost_ret (v := .tuple #[.slice none 0 0, .bool false]) ?_ rfl (gives_no rfl HB.out)
  simp [results, Try.results32, asAddr]
set_option maxRecDepth 20000 in
set_option maxHeartbeats 1000000 in
theorem pDone_yes (a : Option Addr) (n c : Nat) (seq : Int) (l : List Sl) (m : Nat) (hm : Hid (First (waits seq) l m)) (hmn : m < n) (hn : n * 16 ≤ 140737488355328) (w : World) (hL : Hid (LC w a n c 2 (scs l))) :
    Calls Try.prog 32 #[.slice a n c, .int .i64 seq] w fun e w' => Gives w (l.set m (seq, true)) true e w' := by
  have hmf : ∀ (fn : Fn) (first cap : Array Value) (w : World), (Instr.makeFunc fn first cap).run Try.prog w = .ok (.func fn first cap) w := fun _ _ _ _ => rfl
  have hlen : Hid (l.length = n) := by have := hL.out.len; rw [scs_len] at this; show _ = _; omega
  obtain ⟨b0, o0, rfl, hb0, hc0⟩ := hL.out.sure (by omega)
  clear hc0 hb0
  have hat : Hid ((l[m]?).map (·.1) = some seq) := by
    obtain ⟨s, d, hsd⟩ := at_ex (l := l) (k := m) (by rw [hlen.out]; exact hmn)
    have := hm.out.yes _ hsd
    simp [waits] at this
    show _ = _
    rw [hsd]
    simp [this.1]
  go_enter Try.func32, Try.ntmps32
  go_wp2_with fail
  refine one_box (Φ := fun W => Calls _ _ _ W _) ?_
  intro V hV hVb
  have HV : Hid (Below w.heap.size w V) := hVb
  have HA : Hid (Asks 62 w.heap.size (waits seq) V) := asks_waits _ _ _ ((cell_of_row _ _ _ _ _ _ hV).trans rfl)
  clear hV hVb
  refine (sIndexFunc_any 62 w.heap.size (waits seq) eg_waits _ n c (by omega) l m hm m (show _ = _ by rw [if_pos hmn]) V (hL.out.below (Nat.le_refl _) HV.out) HA).mono ?_
  rintro e W1 ⟨rfl, hb⟩
  have HB : Hid (Below w.heap.size w W1) := HV.out.trans (hb.mono HV.out.size)
  clear hb HV HA
  go_wp2_with fail
  refine (sClone_some b0 o0 n c hn (scs l) W1 (hL.out.below (Nat.le_refl _) HB.out)).mono ?_
  rintro e W2 ⟨⟨v, rfl, hown⟩, hb⟩
  obtain ⟨g, cap, rfl⟩ := own_some hown (by omega)
  have HO : Hid (W2.ownsRow w.heap.size 67 2 (.slice (some ⟨g, 0, none⟩) n cap) n (scs l)) := own_base hown HB.out.size
  have HB2 : Hid (Below w.heap.size w W2) := HB.out.trans (hb.mono HB.out.size)
  have hfr : W2.frozen? ⟨g, m * 2 + 1, none⟩ = false := HO.out.frozenAt _
  have hcl : W2.cell? ⟨g, m * 2 + 1, none⟩ = (scs l)[m * 2 + 1]? := HO.out.cellAt _ (by omega)
  obtain ⟨s, d, hsd⟩ := at_ex (l := l) (k := m) (by rw [hlen.out]; exact hmn)
  rw [scs_done _ _ _ hsd] at hcl
  have hg := (HO.out.lt g rfl).1
  clear hb hown HB hsd
  go_wp2_with fail
  have hst := HO.out.stored (m * 2 + 1) (.bool true)
  rw [scs_set _ _ _ hat.out] at hst
  refine bodyPost_ret (v := .tuple #[.slice (some ⟨g, 0, none⟩) n cap, .bool true]) ?_ rfl (gives_own (by simp [hlen.out]) hst.1 (HB2.out.setCell hg _))
  simp [results, Try.results32, asAddr]
end Go.Proofs.Ytfhckpeenkaiiab
