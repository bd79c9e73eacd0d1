/- Bytes told alike, and a load by the program and by the document. -/
import Derived.Test.YtpiohehijkpghaaDoorMemS
import Derived.Shelf.Bytes.SlEqualAll
namespace Go.Proofs.YtpiohehijkpghaaDoor
open Go.RowKit
open Hy
set_option linter.unusedVariables false

theorem Bytes_same (p1 p2 : Option Addr) (n c1 c2 : Nat) (xs : List Int) (hx : xs.length = n) (w : World) (h1 : Lib.BytesIn w p1 n xs) (h2 : Lib.BytesIn w p2 n xs) :
    Calls Tryd.prog 19 #[.slice p1 n c1, .slice p2 n c2] w fun e w' => e = .returned (.bool true) ∧ w' = w := by
  have k1 := h1.convert (P := Tryd.prog) hx c1 35 5 9 Tryd.underlying35 Tryd.underlying5 Tryd.underlying9
  have k2 := h2.convert (P := Tryd.prog) hx c2 35 5 9 Tryd.underlying35 Tryd.underlying5 Tryd.underlying9
  clear h1 h2
  go_enter Tryd.func19, Tryd.ntmps19
  go_wp2
  go_ret
  exact ⟨by simp, rfl⟩

theorem Fr.bytes {w : World} {B h n : Nat} {f : Nat → Int} (H : Fr w B h n f) : Lib.BytesIn w (some ⟨h, 0, none⟩) n ((List.range n).map f) := fun _ =>
  ⟨h, 0, rfl, fun i hi => by rw [Nat.zero_add, H.cell i hi]; simp [List.getD, hi]⟩

theorem Lies.below {w w' : World} {g o n : Nat} {f : Nat → Int} (h : Lies w g o n f) (hb : Below w.heap.size w w') : Lies w' g o n f := fun i hi => by
  have hlt := World.block_lt_of_cell? _ _ (h i hi)
  rw [hb.cell hlt]
  exact h i hi

theorem Lies.part {w : World} {g o n : Nat} {f : Nat → Int} (h : Lies w g o n f) (a m : Nat) (ham : a + m ≤ n) : Lies w g (o + a) m (fun i => f (a + i)) := fun i hi => by
  rw [Nat.add_assoc]
  exact h (a + i) (by omega)

/-- A load by the program and by the document: the same answer, wherever the bytes lie as they lay. -/
theorem Loads (p : Option Addr) (n c : Nat) (op : Int) (a : Nat) (xs : List Int) (hx : xs.length = n) (hnc : n ≤ c) (hn : n ≤ 140737488355328) (a1 : a ≤ 4294967295) (w : World) (h : Lib.BytesIn w p n xs) (hb : ∀ x ∈ xs, 0 ≤ x ∧ x < 256) :
    ∃ (V : Int) (b : Bool), (Calls Tryd.prog 52 #[.slice p n c, .int .i64 op, .int .u32 a] w fun e w' => e = .returned (.tuple #[.int .u32 V, .bool b]) ∧ w' = w) ∧
      ∀ w1, Below w.heap.size w w1 → Calls Tryd.prog 36 #[.slice p n c, .int .i64 op, .int .u32 a] w1 fun e w' => e = .returned (.tuple #[.int .u32 V, .bool b]) ∧ w' = w1 := by
  by_cases ho : 0 < ldn op ∧ (a : Int) % ldn op = 0 ∧ (a : Int) + ldn op ≤ n
  · obtain ⟨m, hm⟩ := Int.eq_ofNat_of_zero_le (show 0 ≤ ldn op by omega)
    rw [hm] at ho
    obtain ⟨g, o, rfl, hc⟩ := h.at (by omega)
    have hL : Lies w g (o + a) m (fun i => xs.getD (a + i) 0) := Lies.part (f := fun i => xs.getD i 0) hc a m (by omega)
    have hf : ∀ i, i < m → 0 ≤ xs.getD (a + i) 0 ∧ xs.getD (a + i) 0 ≤ 255 := fun i hi => by
      have hlt : a + i < xs.length := by omega
      have := hb (xs.getD (a + i) 0) (by simp [List.getD, List.getElem?_eq_getElem hlt])
      omega
    exact ⟨_, true, Load_any g o n c op a m _ hm hn a1 (by omega) (by omega) (by omega) hnc w hf hL, fun w1 hb1 => tLoad_any g o n c op a m _ hm hn a1 (by omega) (by omega) (by omega) hnc w1 hf (hL.below hb1)⟩
  · exact ⟨0, false, Load_no p n c op a hn (by omega) (by omega) ho w, fun w1 _ => tLoad_no p n c op a hn (by omega) (by omega) ho w1⟩

end Go.Proofs.YtpiohehijkpghaaDoor
