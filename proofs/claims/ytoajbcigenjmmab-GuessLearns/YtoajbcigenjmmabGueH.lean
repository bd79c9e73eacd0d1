/- A table is the same as itself. -/
import Derived.Test.YtoajbcigenjmmabGueG
import Derived.Laws.StructEq
import Derived.ChangeKeysEq
namespace Go.Proofs.Ytoajbcigenjmmab.eq
open Go.RowKit
open Hy
set_option linter.unusedVariables false
theorem kc : Try.prog.cellsOf 24 = 2 := by kernel_rfl
theorem kv : Try.prog.cellsOf 27 = 4 := by kernel_rfl
/-- The counters by value. -/
abbrev cts (t : Tb) : Array Value := #[.int .i64 (t.L 0), .int .u32 (t.G 0), .int .i64 (t.L 1), .int .u32 (t.G 1), .int .i64 (t.L 2), .int .u32 (t.G 2), .int .i64 (t.L 3), .int .u32 (t.G 3), .int .i64 (t.L 4), .int .u32 (t.G 4), .int .i64 (t.L 5), .int .u32 (t.G 5), .int .i64 (t.L 6), .int .u32 (t.G 6), .int .i64 (t.L 7), .int .u32 (t.G 7), .int .i64 (t.L 8), .int .u32 (t.G 8), .int .i64 (t.L 9), .int .u32 (t.G 9), .int .i64 (t.L 10), .int .u32 (t.G 10), .int .i64 (t.L 11), .int .u32 (t.G 11), .int .i64 (t.L 12), .int .u32 (t.G 12), .int .i64 (t.L 13), .int .u32 (t.G 13), .int .i64 (t.L 14), .int .u32 (t.G 14), .int .i64 (t.L 15), .int .u32 (t.G 15)]
/-- The values by value. -/
abbrev vls (t : Tb) : Array Value := #[.int .u32 (t.P 0), .int .u32 (t.A 0), .int .u32 (t.S 0), .int .i64 (t.U 0), .int .u32 (t.P 1), .int .u32 (t.A 1), .int .u32 (t.S 1), .int .i64 (t.U 1), .int .u32 (t.P 2), .int .u32 (t.A 2), .int .u32 (t.S 2), .int .i64 (t.U 2), .int .u32 (t.P 3), .int .u32 (t.A 3), .int .u32 (t.S 3), .int .i64 (t.U 3), .int .u32 (t.P 4), .int .u32 (t.A 4), .int .u32 (t.S 4), .int .i64 (t.U 4), .int .u32 (t.P 5), .int .u32 (t.A 5), .int .u32 (t.S 5), .int .i64 (t.U 5), .int .u32 (t.P 6), .int .u32 (t.A 6), .int .u32 (t.S 6), .int .i64 (t.U 6), .int .u32 (t.P 7), .int .u32 (t.A 7), .int .u32 (t.S 7), .int .i64 (t.U 7)]
theorem part_c (t : Tb) (w : World) (i : Nat) (hi : i < 16) : (part 24 (cts t) (i * 2)).run Try.prog w = .ok (.agg #[.int .i64 (t.L i), .int .u32 (t.G i)]) w :=
  match i, hi with
  | 0, _ => by kernel_rfl
  | 1, _ => by kernel_rfl
  | 2, _ => by kernel_rfl
  | 3, _ => by kernel_rfl
  | 4, _ => by kernel_rfl
  | 5, _ => by kernel_rfl
  | 6, _ => by kernel_rfl
  | 7, _ => by kernel_rfl
  | 8, _ => by kernel_rfl
  | 9, _ => by kernel_rfl
  | 10, _ => by kernel_rfl
  | 11, _ => by kernel_rfl
  | 12, _ => by kernel_rfl
  | 13, _ => by kernel_rfl
  | 14, _ => by kernel_rfl
  | 15, _ => by kernel_rfl
  | n + 16, h => absurd h (by omega)
theorem part_v (t : Tb) (w : World) (i : Nat) (hi : i < 8) : (part 27 (vls t) (i * 4)).run Try.prog w = .ok (.agg #[.int .u32 (t.P i), .int .u32 (t.A i), .int .u32 (t.S i), .int .i64 (t.U i)]) w :=
  match i, hi with
  | 0, _ => by kernel_rfl
  | 1, _ => by kernel_rfl
  | 2, _ => by kernel_rfl
  | 3, _ => by kernel_rfl
  | 4, _ => by kernel_rfl
  | 5, _ => by kernel_rfl
  | 6, _ => by kernel_rfl
  | 7, _ => by kernel_rfl
  | n + 8, h => absurd h (by omega)
theorem eql_c (L G : Int) (w : World) : (Op.equalIn 9998 24 (.agg #[.int .i64 L, .int .u32 G]) (.agg #[.int .i64 L, .int .u32 G])).run Try.prog w = .ok true w := by
  go_simp
theorem eql_v (P A S U : Int) (w : World) : (Op.equalIn 9998 27 (.agg #[.int .u32 P, .int .u32 A, .int .u32 S, .int .i64 U]) (.agg #[.int .u32 P, .int .u32 A, .int .u32 S, .int .i64 U])).run Try.prog w = .ok true w := by
  go_simp
theorem items_c (t : Tb) (w : World) : ∀ is : List Nat, (∀ i ∈ is, i < 16) → (Op.eqItems 9998 24 2 (cts t) (cts t) is).run Try.prog w = .ok true w
  | [], _ => by simp [Op.eqItems]
  | i :: is, h => by
    have hp := part_c t w i (h i (by simp))
    have ih := items_c t w is (fun j hj => h j (by simp [hj]))
    have he := eql_c (t.L i) (t.G i) w
    simp only [Op.eqItems, Sem.run_bind, hp, he, Result.andThen_ok]
    simpa using ih
theorem items_v (t : Tb) (w : World) : ∀ is : List Nat, (∀ i ∈ is, i < 8) → (Op.eqItems 9998 27 4 (vls t) (vls t) is).run Try.prog w = .ok true w
  | [], _ => by simp [Op.eqItems]
  | i :: is, h => by
    have hp := part_v t w i (h i (by simp))
    have ih := items_v t w is (fun j hj => h j (by simp [hj]))
    have he := eql_v (t.P i) (t.A i) (t.S i) (t.U i) w
    simp only [Op.eqItems, Sem.run_bind, hp, he, Result.andThen_ok]
    simpa using ih
theorem eqlC (t : Tb) : ∀ w, (Op.equalIn 9999 25 (.agg (cts t)) (.agg (cts t))).run Try.prog w = .ok true w := by
  intro w
  obtain ⟨i, hi⟩ : ∃ i, Try.prog.info? 24 = some i := Option.isSome_iff_exists.1 (by kernel_rfl)
  rw [show (9999 : Nat) = 9998 + 1 from rfl, run_equalIn_array w 9998 (cts t) (cts t) Try.underlying25 hi, kc]
  exact items_c t w _ (fun i hi => by simpa using hi)
theorem eqlV (t : Tb) : ∀ w, (Op.equalIn 9999 28 (.agg (vls t)) (.agg (vls t))).run Try.prog w = .ok true w := by
  intro w
  obtain ⟨i, hi⟩ : ∃ i, Try.prog.info? 27 = some i := Option.isSome_iff_exists.1 (by kernel_rfl)
  rw [show (9999 : Nat) = 9998 + 1 from rfl, run_equalIn_array w 9998 (vls t) (vls t) Try.underlying28 hi, kv]
  exact items_v t w _ (fun i hi => by simpa using hi)
set_option maxRecDepth 20000 in
set_option maxHeartbeats 1000000 in
theorem eqlT (t : Tb) : ∀ w, (binOp .eql 30 (.agg (tcs t)) (.agg (tcs t))).run Try.prog w = .ok (.bool true) w := by
  intro w
  have h := eqlC t
  have h2 := eqlV t
  go_simp
end Go.Proofs.Ytoajbcigenjmmab.eq
