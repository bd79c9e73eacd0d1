/- How often each number is used. -/
import Derived.Test.YtpiohehijkpghabRenC
namespace Go.Proofs.Ytpiohehijkpghab
open Go.RowKit Go.Maps
open Hy
set_option linter.unusedVariables false
theorem heap_lt {w : World} {b : Nat} {o : Obj} (h : w.heap[b]? = some o) : b < w.heap.size := (Array.getElem?_eq_some_iff.1 h).1
theorem law3 : Keyed Try.prog 3 := int_keyed Try.underlying3
theorem zero3 (w : World) : (zeroValue 3).run Try.prog w = .ok (.int .i64 0) w := by kernel_rfl
set_option maxRecDepth 20000 in
set_option maxHeartbeats 1000000 in
theorem nused_any (T : Array Value) (P : Int) (r f : Nat → Int) (a : Option Addr) (n c : Nat) (hT : Hid (T = mcs P r (.slice a n c))) (hF : T[33]? = some (.slice a n c)) (hR : Hid (∀ k, k < 32 → (Lit.int .i64 (r k)).wf = true)) (hn : n ≤ 64) (w : World) (hL : Hid (Lie w a n c f)) :
    Calls Try.prog 56 #[.agg T] w fun e w' => ∃ B D, e = .returned (.map (some B)) ∧ w'.ownsMap Try.prog 3 (plainElem (H := Unit) Try.prog 3) B (32 + n) D ∧ Cnts D (jn r f) (32 + n) ∧ Below w.heap.size w w' := by
  have hmm : ∀ (x : Int) (w : World), (Instr.makeMap 85 (some (.int .i64 x))).run Try.prog w = .ok (.map (some w.heap.size)) (w.alloc (.map #[] 0)) := fun x w => by
    simp only [Instr.makeMap, Sem.run_bind, run_underlying Try.underlying85, Result.andThen_ok]
    rfl
  go_enter Try.func56, Try.ntmps56
  go_wp2
  have hB0 : Below w.heap.size w ((w.alloc (Obj.cells T 42)).alloc (Obj.map #[] 0)) := ((Below.refl _ _).alloc (Nat.le_refl _) _).alloc (by simp) _
  go_loopw [12] (fun i wr => ∃ k : Nat, k ≤ 32 ∧ i = .int .i64 k ∧ ∃ D, wr.ownsMap Try.prog 3 (plainElem (H := Unit) Try.prog 3) (w.heap.size + 1) k D ∧ Cnts D (jn r f) k ∧ wr.heap[w.heap.size]? = some (.cells T 42 (0, 0)) ∧ Below w.heap.size w wr)
    (fun i _ => 32 - (intOf i).toNat)
  case atStart => exact ⟨0, by omega, rfl, _, by simpa using World.ownsMap_made (w.alloc (Obj.cells T 42)) _ _ _, cnts_zero _, heap_alloc2_old _ _ _, hB0⟩
  case round =>
    obtain ⟨k, hk, rfl, D, hown, hcn, hrow, hnx⟩ := hrel
    by_cases hlt : k < 32
    · have hcx : wr.cell? ⟨w.heap.size, 1 + k, none⟩ = some (.int .i64 (r k)) := (cell_of_row wr w.heap.size _ _ _ _ hrow).trans (by rw [hT.out]; exact mcs_R _ _ _ _ hlt)
      have hkey : keyOf Try.prog 3 (.int .i64 (r k)) = some (.int .i64 (r k)) := keyOf_int_mk Try.underlying3 (hR.out k hlt)
      have HO : Hid (Below w.heap.size w wr) := hnx
      have HR0 : Hid (wr.heap[w.heap.size]? = some (.cells T 42 (0, 0))) := hrow
      clear hnx hrow
      go_wp2_with (first
        | (at_lookup; refine wpList_lookup_own_int _ rfl _ _ 85 rfl 3 3 .i64 law3 Try.underlying85 Try.underlying3 (zero3 _) (w.heap.size + 1) k _ rfl hown _ _ rfl hkey ?_; intro c hat hwc)
        | (at_mapUpdate; refine wpList_mapUpdate_own _ rfl _ _ _ 85 rfl 3 3 law3 Try.underlying85 _ (w.heap.size + 1) k _ rfl hown (by unfold maxLen; omega) _ _ _ rfl rfl hkey _ [] (plainElem_int Try.underlying3 (wrap64_wf _)) ?_; intro w1 hown1 hgrow1)
        | go_in)
      go_roundw
      case rel => exact ⟨k + 1, by omega, by go_num, _, hown1, hcn.next (jn_r hlt).symm hat (by omega), (hgrow1.block _ (heap_lt HR0.out) (by simp)).trans HR0.out, HO.out.grown hgrow1 HO.out.size (fun j hj => by cases hj; omega)⟩
      case measure => simp [intOf]; omega
    · have : k = 32 := by omega
      subst this
      rw [show ((32 : Nat) : Int) = 32 from rfl]
      have hcF : wr.cell? ⟨w.heap.size, 33, none⟩ = some (.slice a n c) := (cell_of_row wr w.heap.size _ _ _ _ hrow).trans hF
      go_wp2
      have HO : Hid (Below w.heap.size w wr) := hnx
      clear hnx hrow hcF
      go_loopw [26] (fun i wr => ∃ k : Nat, k ≤ n ∧ i = .int .i64 k ∧ ∃ D, wr.ownsMap Try.prog 3 (plainElem (H := Unit) Try.prog 3) (w.heap.size + 1) (32 + k) D ∧ Cnts D (jn r f) (32 + k) ∧ Below w.heap.size w wr)
        (fun i _ => n - (intOf i).toNat)
      case atStart => exact ⟨0, by omega, rfl, _, hown, hcn, HO.out⟩
      case round =>
        obtain ⟨k, hk, rfl, D, hown, hcn, hnx⟩ := hrel
        by_cases hlt : k < n
        · obtain ⟨b, o, rfl, hb, hc⟩ := hL.out.sure (by omega)
          have hcx : wr.cell? ⟨b, o + k, none⟩ = some (.int .i64 (f k)) := (hnx.cell (p := ⟨b, o + k, none⟩) hb).trans (hc k hlt)
          have hkey : keyOf Try.prog 3 (.int .i64 (f k)) = some (.int .i64 (f k)) := keyOf_int_mk Try.underlying3 (hL.out.wf k hlt)
          have HO : Hid (Below w.heap.size w wr) := hnx
          clear hnx hc
          go_wp2_with (first
            | (at_lookup; refine wpList_lookup_own_int _ rfl _ _ 85 rfl 3 3 .i64 law3 Try.underlying85 Try.underlying3 (zero3 _) (w.heap.size + 1) (32 + k) _ rfl hown _ _ rfl hkey ?_; intro c hat hwc)
            | (at_mapUpdate; refine wpList_mapUpdate_own _ rfl _ _ _ 85 rfl 3 3 law3 Try.underlying85 _ (w.heap.size + 1) (32 + k) _ rfl hown (by unfold maxLen; omega) _ _ _ rfl rfl hkey _ [] (plainElem_int Try.underlying3 (wrap64_wf _)) ?_; intro w1 hown1 hgrow1)
            | go_in)
          go_roundw
          case rel => exact ⟨k + 1, by omega, by go_num, _, hown1, hcn.next (jn_f k).symm hat (by omega), HO.out.grown hgrow1 HO.out.size (fun j hj => by cases hj; omega)⟩
          case measure => simp [intOf]; omega
        · have : k = n := by omega
          subst this
          go_wp2
          go_ret
          exact ⟨_, _, rfl, hown, hcn, hnx⟩
end Go.Proofs.Ytpiohehijkpghab
