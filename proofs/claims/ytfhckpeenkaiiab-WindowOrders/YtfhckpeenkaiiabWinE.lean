/- Pop: the program. -/
import Derived.Test.YtfhckpeenkaiiabWinD
namespace Go.Proofs.Ytfhckpeenkaiiab
open Go.RowKit
set_option linter.unusedVariables false
theorem below_setRow {B : Nat} {a w : World} (h : Below B a w) {g : Nat} (hg : B ≤ g) (cs : Array Value) : Below B a (w.setRow g cs) :=
  ⟨h.os, h.tape, h.output, by simpa using h.size, fun k hk => (setRow_other _ _ _ _ (by omega)).trans (h.block k hk)⟩
/-- A whole row into a new box: the world behind it as a letter. -/
theorem wpList_store_box {P : Program} {ops : Array Oper} {rest : List Oper} {o : Oper} {a : Act} {W : World} {Q : Exit → Act → World → Prop} (hgd : o.guard = none) (ty : TypeId) (x y : Operand) (ho : o.op = .store ty x y)
    (cells : Array Value) (t : TypeId) (old : Array Value) (hx : a.eval x = .pointer (some ⟨W.heap.size, 0, none⟩)) (hy : a.eval y = .agg cells)
    (hi : (P.info? ty).map (·.size) = some cells.size) (hold : old.size = cells.size) (h1 : cells.all (·.oneCell') = true)
    (h : ∀ V : World, V.heap[W.heap.size]? = some (.cells cells t (0, 0)) → Below W.heap.size W V → wpList P ops Q rest (a.put o.dst undef) V) : wpList P ops Q (o :: rest) a (W.alloc (.cells old t (0, 0))) :=
  wpList_store_row hgd ty x y ho W.heap.size cells hx hy t old (heap_alloc_new _ _) hi hold h1 (h _ (setRow_heap _ _ _ _ _ _ (heap_alloc_new _ _)) (below_setRow ((Below.refl _ _).alloc (Nat.le_refl _) _) (Nat.le_refl _) _))
theorem slot_info (s : Int) (d : Bool) : (Try.prog.info? 67).map (·.size) = some (#[Value.int .i64 s, .bool d] : Array Value).size := by kernel_rfl
theorem lc_empty (w : World) (a : Option Addr) (size : Nat) : LC w a 0 0 size [] := ⟨by simp, Nat.le_refl _, by unfold maxLen; omega, fun _ => ⟨rfl, rfl⟩, fun u hu => by simp at hu, fun x hx h0 => absurd h0 (by omega)⟩
theorem lc_end {w : World} {a : Option Addr} {m c size size' : Nat} {cs : List Value} {f : Addr → Addr} (h : LC w a m c size cs) : LC w (Option.map f a) 0 (c - m) size' [] := by
  refine ⟨by simp, Nat.zero_le _, by have := h.top; omega, fun e => ?_, fun u hu => by simp at hu, fun x hx h0 => absurd h0 (by omega)⟩
  cases a with
  | none => have := h.nil rfl; omega
  | some x => cases e
/-- The numbers of the first ones. -/
def headS (l : List Sl) (m : Nat) : List Int := (l.take m).map (·.1)
theorem headS_len {l : List Sl} {m n : Nat} (h : l.length = n) (hm : m ≤ n) : (headS l m).length = m := by
  unfold headS
  rw [List.length_map, List.length_take, h]
  omega
theorem headS_next {l : List Sl} {k : Nat} {s : Int} {d : Bool} (h : l[k]? = some (s, d)) : headS l (k + 1) = headS l k ++ [s] := by
  unfold headS
  rw [take_at h, List.map_append]
  rfl
/-- Slots and numbers are answered, in new memory. -/
def Gives2 (w : World) (l : List Sl) (k : List Int) (e : Ending) (w' : World) : Prop :=
  (∃ a c b d, e = .returned (.tuple #[.slice a l.length c, .slice b k.length d]) ∧ LC w' a l.length c 2 (scs l) ∧ FarC w.heap.size a ∧ LC w' b k.length d 1 (ics k) ∧ FarC w.heap.size b) ∧ Below w.heap.size w w'
theorem gives2_own {w w' : World} {v u : Value} {l : List Sl} {k : List Int} {n m : Nat} (hn : l.length = n) (hm : k.length = m) (hown : w'.ownsRow w.heap.size 67 2 v n (scs l)) (hk : w'.ownsRow w.heap.size 3 1 u m (ics k)) (hb : Below w.heap.size w w') : Gives2 w l k (.returned (.tuple #[v, u])) w' := by
  subst hn hm
  obtain ⟨a, c, rfl, h1, h2⟩ := lc_of_own hown (scs_one l)
  obtain ⟨b, d, rfl, h3, h4⟩ := lc_of_own hk (ics_one k)
  exact ⟨⟨a, c, b, d, rfl, h1, h2, h3, h4⟩, hb⟩
set_option maxRecDepth 20000 in
set_option maxHeartbeats 1000000 in
theorem pPop_any (a : Option Addr) (n c : Nat) (most : Int) (l : List Sl) (m : Nat) (hm : Hid (Goes l most m)) (hn : n * 16 ≤ 140737488355328) (w : World) (hL : Hid (LC w a n c 2 (scs l))) :
    Calls Try.prog 35 #[.slice a n c, .int .i64 most] w fun e w' => Gives2 w (l.drop m) (headS l m) e w' := by
  obtain ⟨i3, hi3, hz0, hz1, hz2⟩ := info_parts info3w
  have hlen : Hid (l.length = n) := by have := hL.out.len; rw [scs_len] at this; show _ = _; omega
  have hmn : m ≤ n := by have := hm.out.le; have := hlen.out; omega
  go_enter Try.func35, Try.ntmps35
  go_wp2_with fail
  go_loopw [6, 11] (fun v i wr => ∃ k : Nat, k ≤ m ∧ i = .int .i64 k ∧ Hid (wr.ownsRow w.heap.size 3 1 v k (ics (headS l k))) ∧ Hid (Below w.heap.size w wr))
    (fun _ i _ => n - (intOf i).toNat)
  case atStart => exact ⟨0, by omega, rfl, World.ownsRow_nil _ _ _ _, Below.refl _ _⟩
  case round =>
    obtain ⟨k, hk, rfl, HO, HB⟩ := hrel
    obtain ⟨pk, ck, rfl⟩ := owns_slice' HO.out
    by_cases hlt : k < n
    · obtain ⟨s, d, hsd⟩ := at_ex (l := l) (k := k) (by rw [hlen.out]; exact hlt)
      obtain ⟨bb, o, rfl, hb, hc⟩ := hL.out.sure (by omega)
      have c0 : wr.cell? ⟨bb, o + k * 2, none⟩ = some (.int .i64 s) := (HB.out.cell (p := ⟨bb, o + k * 2, none⟩) hb).trans (hc _ _ (scs_seq _ _ _ hsd))
      have c1 : wr.cell? ⟨bb, o + k * 2 + 1, none⟩ = some (.bool d) := (HB.out.cell (p := ⟨bb, o + k * 2 + 1, none⟩) hb).trans (by rw [Nat.add_assoc]; exact hc _ _ (scs_done _ _ _ hsd))
      have hkc : k < c := by have := hL.out.le; omega
      clear hc
      go_upto_region 5 with fail
      refine one_box (Φ := fun W => Code.wp _ _ _ _ W) ?_
      intro U hU hUb
      have HBU : Hid (Below w.heap.size w U) := HB.out.trans (hUb.mono HB.out.size)
      have HOU : Hid (U.ownsRow w.heap.size 3 1 (.slice pk k ck) k (ics (headS l k))) := own_below HO.out (Nat.le_refl _) hUb
      have e0 : U.cell? ⟨wr.heap.size, 0, none⟩ = some (.int .i64 s) := (cell_of_row _ _ _ _ _ _ hU).trans rfl
      have e1 : U.cell? ⟨wr.heap.size, 1, none⟩ = some (.bool d) := (cell_of_row _ _ _ _ _ _ hU).trans rfl
      clear hU hUb HB HO c0 c1
      generalize wr.heap.size = q at *
      by_cases hkm : k = m
      · subst hkm
        have hst := hm.out.stop _ hsd
        by_cases hmo : (k : Int) < most
        · have hd : d = false := by
            cases d with
            | false => rfl
            | true => exact absurd ⟨hmo, rfl⟩ hst
          subst hd
          have hmo2 : decide (most ≤ (k : Int)) = false := by simpa using hmo
          clear hst hsd
          go_wp2_with fail
          refine one_box (Φ := fun W => Calls _ _ _ W _) ?_
          intro V hV hVb
          have HV : Hid (Below w.heap.size w V) := HBU.out.trans (hVb.mono HBU.out.size)
          have q0 : V.cell? ⟨U.heap.size, 0, none⟩ = some (.slice (some ⟨bb, o + k * 2, none⟩) (n - k) (c - k)) := (cell_of_row _ _ _ _ _ _ hV).trans rfl
          have hq : U.heap.size < V.heap.size := (Array.getElem?_eq_some_iff.1 hV).1
          have HOV : Hid (V.ownsRow w.heap.size 3 1 (.slice pk k ck) k (ics (headS l k))) := own_below HOU.out (Nat.le_refl _) hVb
          have L2 : Hid (LC V (some ⟨bb, o + k * 2, none⟩) (n - k) (c - k) 2 (scs (l.drop k))) := by rw [scs_drop]; exact LC.drop (hL.out.below (Nat.le_refl _) HV.out) k (by omega) (fun _ => rfl) rfl
          refine (sConcat_one U.heap.size (some ⟨bb, o + k * 2, none⟩) (n - k) (c - k) (scs (l.drop k)) (by omega) V hq q0 L2).mono ?_
          rintro e W3 ⟨⟨v, rfl, hown⟩, hb3⟩
          have HB3 : Hid (Below w.heap.size w W3) := HV.out.trans (hb3.mono HV.out.size)
          have HO3 : Hid (W3.ownsRow w.heap.size 67 2 v ((n - k)) (scs (l.drop k))) := own_base hown HV.out.size
          have HK3 : Hid (W3.ownsRow w.heap.size 3 1 (.slice pk k ck) k (ics (headS l k))) := own_below HOV.out (Nat.le_refl _) hb3
          clear hV hVb HV q0 hq HOV L2 hown hb3
          go_wp2_with fail
          refine bodyPost_ret (v := .tuple #[v, .slice pk k ck]) ?_ rfl (gives2_own (by rw [List.length_drop, hlen.out]; try omega) (headS_len hlen.out (by omega)) HO3.out HK3.out HB3.out)
          simp [results, Try.results35, asAddr]
        · have hmo2 : decide (most ≤ (k : Int)) = true := by simpa using hmo
          clear hst hsd
          go_wp2_with fail
          refine one_box (Φ := fun W => Calls _ _ _ W _) ?_
          intro V hV hVb
          have HV : Hid (Below w.heap.size w V) := HBU.out.trans (hVb.mono HBU.out.size)
          have q0 : V.cell? ⟨U.heap.size, 0, none⟩ = some (.slice (some ⟨bb, o + k * 2, none⟩) (n - k) (c - k)) := (cell_of_row _ _ _ _ _ _ hV).trans rfl
          have hq : U.heap.size < V.heap.size := (Array.getElem?_eq_some_iff.1 hV).1
          have HOV : Hid (V.ownsRow w.heap.size 3 1 (.slice pk k ck) k (ics (headS l k))) := own_below HOU.out (Nat.le_refl _) hVb
          have L2 : Hid (LC V (some ⟨bb, o + k * 2, none⟩) (n - k) (c - k) 2 (scs (l.drop k))) := by rw [scs_drop]; exact LC.drop (hL.out.below (Nat.le_refl _) HV.out) k (by omega) (fun _ => rfl) rfl
          refine (sConcat_one U.heap.size (some ⟨bb, o + k * 2, none⟩) (n - k) (c - k) (scs (l.drop k)) (by omega) V hq q0 L2).mono ?_
          rintro e W3 ⟨⟨v, rfl, hown⟩, hb3⟩
          have HB3 : Hid (Below w.heap.size w W3) := HV.out.trans (hb3.mono HV.out.size)
          have HO3 : Hid (W3.ownsRow w.heap.size 67 2 v ((n - k)) (scs (l.drop k))) := own_base hown HV.out.size
          have HK3 : Hid (W3.ownsRow w.heap.size 3 1 (.slice pk k ck) k (ics (headS l k))) := own_below HOV.out (Nat.le_refl _) hb3
          clear hV hVb HV q0 hq HOV L2 hown hb3
          go_wp2_with fail
          refine bodyPost_ret (v := .tuple #[v, .slice pk k ck]) ?_ rfl (gives2_own (by rw [List.length_drop, hlen.out]; try omega) (headS_len hlen.out (by omega)) HO3.out HK3.out HB3.out)
          simp [results, Try.results35, asAddr]
      · have hgo := hm.out.go k _ (by omega) hsd
        obtain ⟨hmo, hd⟩ := hgo
        have hd' : d = true := hd
        subst hd'
        have hmo2 : decide (most ≤ (k : Int)) = false := by simpa using hmo
        have HN : Hid (headS l (k + 1) = headS l k ++ [s]) := headS_next hsd
        clear hsd hd
        go_wp2_with (at_builtin; refine wpList_append_lc _ rfl _ _ 40 rfl w.heap.size 3 i3 _ 1 8 Try.underlying40 hi3 hz0 hz1 hz2 rfl (by decide) _ k _ rfl (own_below HOU.out (Nat.le_refl _) ((Below.refl _ _).alloc (Nat.le_refl _) _)) _ 1 1 (ics [s]) rfl (lc_box (heap_alloc_new _ _) (ics_one [s]) rfl) (by unfold maxLen; omega) (by omega) (by have := HBU.out.size; simp; omega) ?_; intro v1 w1 hown1 hgrow1)
        have HO1 : Hid (w1.ownsRow w.heap.size 3 1 v1 (k + 1) (ics (headS l (k + 1)))) := by rw [HN.out, ics_app]; exact hown1
        have HB1 : Hid (Below w.heap.size w w1) := (HBU.out.alloc HBU.out.size _).grown hgrow1 (by have := HBU.out.size; simp; omega) (fun j hj => (HOU.out.lt j hj).1)
        clear hown1 hgrow1
        go_wp2_with fail
        exact ⟨⟨k + 1, by omega, by go_num, HO1, HB1⟩, by simp [intOf]; omega⟩
    · have : k = n := by omega
      subst this
      have hmk : m = k := by omega
      subst hmk
      go_wp2_with fail
      case inl =>
        have hcm : m = c := by first | assumption | omega
        subst hcm
        refine one_box (Φ := fun W => Calls _ _ _ W _) ?_
        intro V hV hVb
        have HV : Hid (Below w.heap.size w V) := HB.out.trans (hVb.mono HB.out.size)
        have q0 : V.cell? ⟨wr.heap.size, 0, none⟩ = some (.slice a 0 0) := (cell_of_row _ _ _ _ _ _ hV).trans rfl
        have hq : wr.heap.size < V.heap.size := (Array.getElem?_eq_some_iff.1 hV).1
        have HOV : Hid (V.ownsRow w.heap.size 3 1 (.slice pk m ck) m (ics (headS l m))) := own_below HO.out (Nat.le_refl _) hVb
        have L2 : Hid (LC V a 0 0 2 (scs (l.drop m))) := by rw [List.drop_of_length_le (by rw [hlen.out]; exact Nat.le_refl _)]; exact lc_empty _ _ _
        refine (sConcat_one wr.heap.size a 0 0 (scs (l.drop m)) (by omega) V hq q0 L2).mono ?_
        rintro e W3 ⟨⟨v, rfl, hown⟩, hb3⟩
        have HB3 : Hid (Below w.heap.size w W3) := HV.out.trans (hb3.mono HV.out.size)
        have HO3 : Hid (W3.ownsRow w.heap.size 67 2 v (0) (scs (l.drop m))) := own_base hown HV.out.size
        have HK3 : Hid (W3.ownsRow w.heap.size 3 1 (.slice pk m ck) m (ics (headS l m))) := own_below HOV.out (Nat.le_refl _) hb3
        clear hV hVb HV q0 hq HOV L2 hown hb3
        go_wp2_with fail
        refine bodyPost_ret (v := .tuple #[v, .slice pk m ck]) ?_ rfl (gives2_own (by rw [List.length_drop, hlen.out]; try omega) (headS_len hlen.out (by omega)) HO3.out HK3.out HB3.out)
        simp [results, Try.results35, asAddr]
      case inr =>
        refine one_box (Φ := fun W => Calls _ _ _ W _) ?_
        intro V hV hVb
        have HV : Hid (Below w.heap.size w V) := HB.out.trans (hVb.mono HB.out.size)
        have q0 : V.cell? ⟨wr.heap.size, 0, none⟩ = some (.slice (Option.map (fun x => x.add (m * 2)) a) 0 (c - m)) := (cell_of_row _ _ _ _ _ _ hV).trans rfl
        have hq : wr.heap.size < V.heap.size := (Array.getElem?_eq_some_iff.1 hV).1
        have HOV : Hid (V.ownsRow w.heap.size 3 1 (.slice pk m ck) m (ics (headS l m))) := own_below HO.out (Nat.le_refl _) hVb
        have L2 : Hid (LC V (Option.map (fun x => x.add (m * 2)) a) 0 (c - m) 2 (scs (l.drop m))) := by rw [List.drop_of_length_le (by rw [hlen.out]; exact Nat.le_refl _)]; exact lc_end (hL.out.below (Nat.le_refl _) HV.out)
        refine (sConcat_one wr.heap.size (Option.map (fun x => x.add (m * 2)) a) 0 (c - m) (scs (l.drop m)) (by omega) V hq q0 L2).mono ?_
        rintro e W3 ⟨⟨v, rfl, hown⟩, hb3⟩
        have HB3 : Hid (Below w.heap.size w W3) := HV.out.trans (hb3.mono HV.out.size)
        have HO3 : Hid (W3.ownsRow w.heap.size 67 2 v (0) (scs (l.drop m))) := own_base hown HV.out.size
        have HK3 : Hid (W3.ownsRow w.heap.size 3 1 (.slice pk m ck) m (ics (headS l m))) := own_below HOV.out (Nat.le_refl _) hb3
        clear hV hVb HV q0 hq HOV L2 hown hb3
        go_wp2_with fail
        refine bodyPost_ret (v := .tuple #[v, .slice pk m ck]) ?_ rfl (gives2_own (by rw [List.length_drop, hlen.out]; try omega) (headS_len hlen.out (by omega)) HO3.out HK3.out HB3.out)
        simp [results, Try.results35, asAddr]
end Go.Proofs.Ytfhckpeenkaiiab
