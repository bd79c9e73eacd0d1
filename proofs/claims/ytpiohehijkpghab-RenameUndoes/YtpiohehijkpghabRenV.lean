/- A map is the same as itself. -/
import Derived.Test.YtpiohehijkpghabRenI
import Derived.Laws.StructEq
import Derived.ChangeKeysEq
namespace Go.Proofs.Ytpiohehijkpghab
open Go.RowKit Go.Maps
open Hy
set_option linter.unusedVariables false
/-- A map's registers by value. -/
abbrev rcs (r : Nat → Int) : Array Value := #[.int .i64 (r 0), .int .i64 (r 1), .int .i64 (r 2), .int .i64 (r 3), .int .i64 (r 4), .int .i64 (r 5), .int .i64 (r 6), .int .i64 (r 7), .int .i64 (r 8), .int .i64 (r 9), .int .i64 (r 10), .int .i64 (r 11), .int .i64 (r 12), .int .i64 (r 13), .int .i64 (r 14), .int .i64 (r 15), .int .i64 (r 16), .int .i64 (r 17), .int .i64 (r 18), .int .i64 (r 19), .int .i64 (r 20), .int .i64 (r 21), .int .i64 (r 22), .int .i64 (r 23), .int .i64 (r 24), .int .i64 (r 25), .int .i64 (r 26), .int .i64 (r 27), .int .i64 (r 28), .int .i64 (r 29), .int .i64 (r 30), .int .i64 (r 31)]
theorem rcs_at (r : Nat → Int) (i : Nat) (hi : i < 32) : (rcs r)[i]? = some (.int .i64 (r i)) :=
  match i, hi with
  | 0, _ => rfl
  | 1, _ => rfl
  | 2, _ => rfl
  | 3, _ => rfl
  | 4, _ => rfl
  | 5, _ => rfl
  | 6, _ => rfl
  | 7, _ => rfl
  | 8, _ => rfl
  | 9, _ => rfl
  | 10, _ => rfl
  | 11, _ => rfl
  | 12, _ => rfl
  | 13, _ => rfl
  | 14, _ => rfl
  | 15, _ => rfl
  | 16, _ => rfl
  | 17, _ => rfl
  | 18, _ => rfl
  | 19, _ => rfl
  | 20, _ => rfl
  | 21, _ => rfl
  | 22, _ => rfl
  | 23, _ => rfl
  | 24, _ => rfl
  | 25, _ => rfl
  | 26, _ => rfl
  | 27, _ => rfl
  | 28, _ => rfl
  | 29, _ => rfl
  | 30, _ => rfl
  | 31, _ => rfl
  | n + 32, h => absurd h (by omega)
theorem part_ireg (r : Nat → Int) (w : World) (i : Nat) (hi : i < 32) : (part 3 (rcs r) (i * 1)).run Try.prog w = .ok (.int .i64 (r i)) w :=
  match i, hi with
  | 0, _ => by kernel_rfl
  | 1, _ => by kernel_rfl
  | 2, _ => by kernel_rfl
  | 3, _ => by kernel_rfl
  | 4, _ => by kernel_rfl
  | 5, _ => by kernel_rfl
  | 6, _ => by kernel_rfl
  | 7, _ => by kernel_rfl
  | 8, _ => by kernel_rfl
  | 9, _ => by kernel_rfl
  | 10, _ => by kernel_rfl
  | 11, _ => by kernel_rfl
  | 12, _ => by kernel_rfl
  | 13, _ => by kernel_rfl
  | 14, _ => by kernel_rfl
  | 15, _ => by kernel_rfl
  | 16, _ => by kernel_rfl
  | 17, _ => by kernel_rfl
  | 18, _ => by kernel_rfl
  | 19, _ => by kernel_rfl
  | 20, _ => by kernel_rfl
  | 21, _ => by kernel_rfl
  | 22, _ => by kernel_rfl
  | 23, _ => by kernel_rfl
  | 24, _ => by kernel_rfl
  | 25, _ => by kernel_rfl
  | 26, _ => by kernel_rfl
  | 27, _ => by kernel_rfl
  | 28, _ => by kernel_rfl
  | 29, _ => by kernel_rfl
  | 30, _ => by kernel_rfl
  | 31, _ => by kernel_rfl
  | n + 32, h => absurd h (by omega)
theorem items_ireg (r : Nat → Int) (w : World) : ∀ is : List Nat, (∀ i ∈ is, i < 32) → (Op.eqItems 9999 3 1 (rcs r) (rcs r) is).run Try.prog w = .ok true w
  | [], _ => by simp [Op.eqItems]
  | i :: is, h => by
    have hp := part_ireg r w i (h i (by simp))
    have ih := items_ireg r w is (fun j hj => h j (by simp [hj]))
    have he : (Op.equalIn 9999 3 (.int .i64 (r i)) (.int .i64 (r i))).run Try.prog w = .ok true w := by
      rw [show (9999 : Nat) = 9998 + 1 from rfl, run_equalIn_int w 9998 3 .i64 .i64 (r i) (r i) Try.underlying3]
      simp
    simp only [Op.eqItems, Sem.run_bind, hp, he, Result.andThen_ok]
    simpa using ih
theorem k3 : Try.prog.cellsOf 3 = 1 := by kernel_rfl
theorem eqlR (r : Nat → Int) : ∀ w, (Op.equalIn 10000 39 (.agg (rcs r)) (.agg (rcs r))).run Try.prog w = .ok true w := by
  intro w
  obtain ⟨i, hi⟩ : ∃ i, Try.prog.info? 3 = some i := Option.isSome_iff_exists.1 (by kernel_rfl)
  rw [show (10000 : Nat) = 9999 + 1 from rfl, run_equalIn_array w 9999 (rcs r) (rcs r) Try.underlying39 hi, k3]
  exact items_ireg r w _ (fun i hi => by simpa using hi)
theorem neqR (r : Nat → Int) : ∀ w, (binOp .neq 39 (.agg (rcs r)) (.agg (rcs r))).run Try.prog w = .ok (.bool false) w := by
  intro w
  have h := eqlR r
  go_simp
theorem iregs_info (r : Nat → Int) : (Try.prog.info? 39).map (·.size) = some (rcs r).size := by kernel_rfl
theorem range_regs {w : World} {b : Nat} {P : Int} {r : Nat → Int} {v : Value} {t : TypeId} (h : w.heap[b]? = some (.cells (mcs P r v) t (0, 0))) : w.rangeAt b 1 (rcs r).toList := fun j u hu => by
  have hj : j < 32 := by have := (List.getElem?_eq_some_iff.1 hu).1; simpa using this
  rw [cell_of_row _ _ _ _ _ _ h, mcs_R _ _ _ _ hj]
  have h2 : (rcs r)[j]? = some u := by simpa using hu
  rw [rcs_at r j hj] at h2
  exact h2
theorem wpList_load_mid_g {P : Program} {ops : Array Oper} {rest : List Oper} {o : Oper} {a : Act} {w : World} {Q : Exit → Act → World → Prop} (hw : Region.wanted o (yielded ops a.tmps) = true) (ty : TypeId) (x : Operand) (ho : o.op = .load ty x)
    (b k : Nat) (hx : a.eval x = .pointer (some ⟨b, k, none⟩)) (cs : Array Value) (d : TypeDesc) (hc : w.rangeAt b k cs.toList)
    (hu : P.underlying ty = some d) (hd : d.isRow = true) (hi : (P.info? ty).map (·.size) = some cs.size)
    (h : wpList P ops Q rest (a.put o.dst (.agg cs)) w) : wpList P ops Q (o :: rest) a w := by
  unfold wpList
  rw [if_pos hw]
  exact Or.inl (wp_load_mid ty x ho b k hx cs.toList d hc hu hd (by simpa using hi) h)
set_option maxRecDepth 20000 in
set_option maxHeartbeats 1000000 in
theorem zSame_yes (P : Int) (r f : Nat → Int) (a1 a2 : Option Addr) (n c1 c2 : Nat) (hn : n ≤ 140737488355328) (w : World) (hL1 : Hid (Lie w a1 n c1 f)) (hL2 : Hid (Lie w a2 n c2 f)) :
    Calls Try.prog 23 #[.agg (mcs P r (.slice a1 n c1)), .agg (mcs P r (.slice a2 n c2))] w fun e w' => e = .returned (.bool true) ∧ Below w.heap.size w w' := by
  obtain ⟨T1, hT1⟩ : ∃ T, Hid (T = mcs P r (.slice a1 n c1)) := ⟨_, rfl⟩
  obtain ⟨T2, hT2⟩ : ∃ T, Hid (T = mcs P r (.slice a2 n c2)) := ⟨_, rfl⟩
  obtain ⟨R, hR⟩ : ∃ R, Hid (R = rcs r) := ⟨_, rfl⟩
  rw [← hT1.out, ← hT2.out]
  have nq := neqR r
  have RI : Hid ((Try.prog.info? 39).map (·.size) = some R.size) := by show _ = _; rw [hR.out]; exact iregs_info r
  rw [← hR.out] at nq
  have h10 : T1[0]? = some (.int .i64 P) := by rw [hT1.out]; rfl
  have h20 : T2[0]? = some (.int .i64 P) := by rw [hT2.out]; rfl
  have h1F : T1[33]? = some (.slice a1 n c1) := by rw [hT1.out]; rfl
  have h2F : T2[33]? = some (.slice a2 n c2) := by rw [hT2.out]; rfl
  go_enter Try.func23, Try.ntmps23
  go_upto_region 1 with fail
  refine two_new (Φ := fun W => Code.wp _ _ _ _ W) ?_
  intro W HA' HC' HB' hs0
  have HA : Hid (W.heap[w.heap.size]? = some (.cells T1 42 (0, 0))) := HA'
  have HC : Hid (W.heap[w.heap.size + 1]? = some (.cells T2 42 (0, 0))) := HC'
  have HB : Hid (Below w.heap.size w W) := HB'
  clear HA' HC' HB'
  have G1 : Hid (W.rangeAt w.heap.size 1 R.toList) := by rw [hR.out]; exact range_regs (by rw [← hT1.out]; exact HA.out)
  have G2 : Hid (W.rangeAt (w.heap.size + 1) 1 R.toList) := by rw [hR.out]; exact range_regs (by rw [← hT2.out]; exact HC.out)
  have e1 : W.cell? ⟨w.heap.size, 0, none⟩ = some (.int .i64 P) := (cell_of_row _ _ _ _ _ _ HA.out).trans h10
  have e2 : W.cell? ⟨w.heap.size + 1, 0, none⟩ = some (.int .i64 P) := (cell_of_row _ _ _ _ _ _ HC.out).trans h20
  have d1 : W.cell? ⟨w.heap.size, 33, none⟩ = some (.slice a1 n c1) := (cell_of_row _ _ _ _ _ _ HA.out).trans h1F
  have d2 : W.cell? ⟨w.heap.size + 1, 33, none⟩ = some (.slice a2 n c2) := (cell_of_row _ _ _ _ _ _ HC.out).trans h2F
  go_wp2_with (first | (refine wpList_load_mid_g (by rfl) 39 _ rfl _ 1 rfl R _ G1.out Try.underlying39 rfl RI.out ?_) | (refine wpList_load_mid_g (by rfl) 39 _ rfl _ 1 rfl R _ G2.out Try.underlying39 rfl RI.out ?_))
  clear e1 e2 d1 d2 G1 G2
  go_loopw [5] (fun i wr => ∃ k : Nat, k ≤ n ∧ i = .int .i64 k ∧ Hid (wr.heap[w.heap.size]? = some (.cells T1 42 (0, 0))) ∧ Hid (wr.heap[w.heap.size + 1]? = some (.cells T2 42 (0, 0))) ∧ Hid (Below w.heap.size w wr))
    (fun i _ => n - (intOf i).toNat)
  case atStart => exact ⟨0, by omega, rfl, HA, HC, HB⟩
  case round =>
    obtain ⟨k, hk, rfl, HA, HC, HB⟩ := hrel
    have d1 : wr.cell? ⟨w.heap.size, 33, none⟩ = some (.slice a1 n c1) := (cell_of_row _ _ _ _ _ _ HA.out).trans h1F
    have d2 : wr.cell? ⟨w.heap.size + 1, 33, none⟩ = some (.slice a2 n c2) := (cell_of_row _ _ _ _ _ _ HC.out).trans h2F
    by_cases hlt : k < n
    · have hlt' : (k : Int) < n := by omega
      obtain ⟨b1, o1, rfl, hb1, hc1⟩ := hL1.out.sure (by omega)
      obtain ⟨b2, o2, rfl, hb2, hc2⟩ := hL2.out.sure (by omega)
      have g1 : wr.cell? ⟨b1, o1 + k, none⟩ = some (.int .i64 (f k)) := (HB.out.cell (p := ⟨b1, o1 + k, none⟩) hb1).trans (hc1 k hlt)
      have g2 : wr.cell? ⟨b2, o2 + k, none⟩ = some (.int .i64 (f k)) := (HB.out.cell (p := ⟨b2, o2 + k, none⟩) hb2).trans (hc2 k hlt)
      clear hc1 hc2
      go_wp2_with fail
      go_region
      go_wp2_with fail
      exact ⟨⟨k + 1, by omega, by go_num, HA, HC, HB.out.drew⟩, by simp [intOf]; omega⟩
    · have : k = n := by omega
      subst this
      go_wp2_with fail
      go_ret
      exact ⟨rfl, HB.out⟩
end Go.Proofs.Ytpiohehijkpghab
