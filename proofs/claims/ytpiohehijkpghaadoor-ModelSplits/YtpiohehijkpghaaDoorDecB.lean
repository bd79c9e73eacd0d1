/- What Encode and Decode answer of a word that is an instruction, and of one that is none. -/
import Derived.Test.YtpiohehijkpghaaDoorDecE
import Derived.Test.YtpiohehijkpghaaDoorDecX
namespace Go.Proofs.YtpiohehijkpghaaDoor
open Go.RowKit
open Hy
set_option linter.unusedVariables false

theorem word_again (n : Nat) (n1 : 1 ≤ n) (n2 : n ≤ 48) (x : Int) (x0 : 0 ≤ x) (x1 : x ≤ 4294967295) (h : hit n x = true) :
    word n (rrg x 128 (fm (kn n) 1)) (rrg x 32768 (fm (kn n) 2)) (rrg x 1048576 (fm (kn n) 3)) (rim (fm (kn n)) x) = x := by
  obtain ⟨hF9, _, hF1⟩ := kn_lt n (by omega)
  have hk : kb n = bits .and .u32 x (fm (kn n) 0) := by
    unfold hit at h
    exact (beq_iff_eq.1 h).symm
  unfold word
  rw [hk]
  exact anew_any (kn n) (hF1 n1) hF9 x x0 (by omega)

/-- An instruction that was read of a word is written as that word. -/
theorem Encode_v (x : Int) (n : Nat) (x0 : 0 ≤ x) (x1 : x ≤ 4294967295) (n1 : 1 ≤ n) (n2 : n ≤ 48) (hn : hit n x = true) (hf : ∀ m, 1 ≤ m → m < n → hit m x = false)
    (M R1 R2 R3 I : Int) (H : Hid (M = (n : Int) ∧ R1 = rrg x 128 (fm (kn n) 1) ∧ R2 = rrg x 32768 (fm (kn n) 2) ∧ R3 = rrg x 1048576 (fm (kn n) 3) ∧ I = rim (fm (kn n)) x)) (w : World) (ht : Tab w) :
    Calls Tryd.prog 13 #[iv M R1 R2 R3 I] w fun e w' => e = .returned (.tuple #[.int .u32 x, .int .i64 0]) ∧ Below w.heap.size w w' := by
  obtain ⟨h0, h1, h2, h3, h4⟩ := H.out
  rw [h0, h1, h2, h3, h4]
  have hw := word_again n n1 n2 x x0 x1 hn
  refine (Encode_any n n1 n2 _ _ _ _ w ht).mono fun e w' ⟨h, hb⟩ => ?_
  rw [hw] at h
  rcases h with ⟨_, he⟩ | ⟨hno, _⟩
  · exact ⟨he, hb⟩
  · exact absurd ⟨hn, hf, rfl, rfl, rfl, rfl⟩ hno
end Go.Proofs.YtpiohehijkpghaaDoor
