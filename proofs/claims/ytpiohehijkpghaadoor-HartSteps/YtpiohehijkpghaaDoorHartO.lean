/- Both Steps do the same, of LUI, AUIPC, JAL and JALR. -/
import Derived.Test.YtpiohehijkpghaaDoorHartN
import Derived.Test.YtpiohehijkpghaaDoorHartI
import Derived.Test.YtpiohehijkpghaaDoorHartQA
import Derived.Test.YtpiohehijkpghaaDoorHartQC
import Derived.Test.YtpiohehijkpghaaDoorHartQE
import Derived.Test.YtpiohehijkpghaaDoorHartQG
namespace Go.Proofs.YtpiohehijkpghaaDoor
open Go.RowKit
open Hy
set_option linter.unusedVariables false

/-- A word that was fetched, and its instruction. -/
structure Dec (w : World) (R : Nat → Int) (pc : Int) (p : Option Addr) (n c : Nat) (f : Nat → Int) (X M : Int) (rd s1 s2 : Nat) (I : Int) : Prop where
  CLm : ∀ W, Below w.heap.size w W → Calls Tryd.prog 52 #[.slice p n c, .int .i64 13, .int .u32 pc] W fun e w' => e = .returned (.tuple #[.int .u32 X, .bool true]) ∧ w' = W
  CLt : ∀ W, Below w.heap.size w W → Calls Tryd.prog 36 #[.slice p n c, .int .i64 13, .int .u32 pc] W fun e w' => e = .returned (.tuple #[.int .u32 X, .bool true]) ∧ w' = W
  CDm : ∀ W, Below w.heap.size w W → Calls Tryd.prog 11 #[.int .u32 X] W fun e w' => e = .returned (.tuple #[iv M rd s1 s2 I, .bool true]) ∧ Below W.heap.size W w'
  CDt : ∀ W, Calls Tryd.prog 12 #[.int .u32 X] W fun e w' => e = .returned (.tuple #[iv M rd s1 s2 I, .bool true]) ∧ Below W.heap.size W w'
  lr : rd < 32
  l1 : s1 < 32
  l2 : s2 < 32
  i0 : -2147483648 ≤ I
  i1 : I ≤ 2147483647

theorem hcommit_dec {w : World} {R : Nat → Int} {pc : Int} {p : Option Addr} {n c : Nat} {f : Nat → Int} {X M : Int} {rd s1 s2 : Nat} {I : Int} (o : Ok w R pc p n c f) (d : Dec w R pc p n c f X M rd s1 s2 I) (m1 : 1 ≤ M) (m2 : M ≤ 48) (x y : Nat) (hx : ra ⟨M, rd, s1, s2, I⟩ = x) (hy : rb ⟨M, rd, s1, s2, I⟩ = y) (lx : x < 32) (ly : y < 32) :
    ∀ W, Below w.heap.size w W → Calls Tryd.prog 33 #[hv R pc 0 0, .slice p n c] W fun e w' => e = .returned (cvC (allW n f ⟨M, rd, s1, s2, I⟩ pc (R x) (R y))) ∧ Below W.heap.size W w' := fun W hW => by
  obtain ⟨a0, a1⟩ := o.hR x lx
  obtain ⟨b0, b1⟩ := o.hR y ly
  refine hcommit_yes (hcs R pc 0 0) pc p n c W X M I (R x) (R y) rd s1 s2 x y _ rfl (hcs_reg R pc 0 0 x lx) (hcs_reg R pc 0 0 y ly) lx ly (cC_ok _) (fun W' hW' => d.CLm W' (under hW hW')) (fun W' hW' => d.CDm W' (under hW hW')) (fun W' => ?_) (fun W' hW' => ?_)
  · have h := hReads_any ⟨M, rd, s1, s2, I⟩ W'
    rw [hx, hy] at h
    exact h
  · exact hDo_any ⟨M, rd, s1, s2, I⟩ ⟨d.lr, d.l1, d.l2, d.i0, d.i1, m1, m2⟩ pc (R x) (R y) o.p0 o.p1 a0 a1 b0 b1 W' (o.bys.below (under hW hW')) (o.hT2.below (under hW hW') o.hT2.size)

theorem memLoad_yes {w : World} {R : Nat → Int} {pc : Int} {p : Option Addr} {n c : Nat} {f : Nat → Int} (o : Ok w R pc p n c f) (op : Int) (a : Nat) (a1 : (a : Int) ≤ 4294967295) (ho : 0 < ldn op ∧ (a : Int) % ldn op = 0 ∧ (a : Int) + ldn op ≤ n) :
    (∀ W, Below w.heap.size w W → Calls Tryd.prog 52 #[.slice p n c, .int .i64 op, .int .u32 a] W fun e w' => e = .returned (.tuple #[.int .u32 (ldv op (fun i => f (a + i))), .bool true]) ∧ w' = W) ∧
      (∀ W, Below w.heap.size w W → Calls Tryd.prog 36 #[.slice p n c, .int .i64 op, .int .u32 a] W fun e w' => e = .returned (.tuple #[.int .u32 (ldv op (fun i => f (a + i))), .bool true]) ∧ w' = W) := by
  have hn := o.hn
  obtain ⟨m, hm⟩ := Int.eq_ofNat_of_zero_le (show 0 ≤ ldn op by omega)
  have ho' := ho
  rw [hm] at ho'
  obtain ⟨g, q, hp, hc⟩ := o.hm (by omega)
  have hf : ∀ i, i < m → 0 ≤ f (a + i) ∧ f (a + i) ≤ 255 := fun i hi => o.hf _ (by omega)
  refine ⟨fun W hW => ?_, fun W hW => ?_⟩
  · subst hp
    exact Load_any g q n c op a m _ hm (by omega) (by omega) (by omega) (by omega) (by omega) o.hnc W hf (Lies.part (hc.below hW) a m (by omega))
  · subst hp
    exact tLoad_any g q n c op a m _ hm (by omega) (by omega) (by omega) (by omega) (by omega) o.hnc W hf (Lies.part (hc.below hW) a m (by omega))
theorem memLoad_no {w : World} {R : Nat → Int} {pc : Int} {p : Option Addr} {n c : Nat} {f : Nat → Int} (o : Ok w R pc p n c f) (op : Int) (a : Nat) (a1 : (a : Int) ≤ 4294967295) (ho : ¬ (0 < ldn op ∧ (a : Int) % ldn op = 0 ∧ (a : Int) + ldn op ≤ n)) :
    (∀ W, Below w.heap.size w W → Calls Tryd.prog 52 #[.slice p n c, .int .i64 op, .int .u32 a] W fun e w' => e = .returned (.tuple #[.int .u32 0, .bool false]) ∧ w' = W) ∧
      (∀ W, Below w.heap.size w W → Calls Tryd.prog 36 #[.slice p n c, .int .i64 op, .int .u32 a] W fun e w' => e = .returned (.tuple #[.int .u32 0, .bool false]) ∧ w' = W) := by
  have hn := o.hn
  exact ⟨fun W _ => Load_no p n c op a (by omega) (by omega) (by omega) ho W, fun W _ => tLoad_no p n c op a (by omega) (by omega) (by omega) ho W⟩
/-- What a load finds is a word. -/
theorem ldv_rng (op : Int) (f : Nat → Int) (n a : Nat) (ho : 0 < ldn op ∧ (a : Int) % ldn op = 0 ∧ (a : Int) + ldn op ≤ n) (hf : ∀ i, i < n → 0 ≤ f i ∧ f i ≤ 255) : 0 ≤ ldv op (fun i => f (a + i)) ∧ ldv op (fun i => f (a + i)) ≤ 4294967295 := by
  obtain ⟨m, hm⟩ := Int.eq_ofNat_of_zero_le (show 0 ≤ ldn op by omega)
  have h4 : m ≤ 4 := by
    have : ldn op ≤ 4 := by unfold ldn; split <;> (try split) <;> (try split) <;> omega
    omega
  rw [hm] at ho
  have hg : ∀ i, i < m → 0 ≤ f (a + i) ∧ f (a + i) ≤ 255 := fun i hi => hf _ (by omega)
  unfold ldv
  split
  · rename_i h
    subst h
    have e1 : m = 1 := by simp [ldn] at hm; omega
    have := hg 0 (by omega)
    show 0 ≤ (if f (a + 0) < 128 then f (a + 0) else f (a + 0) + 4294967040) ∧ (if f (a + 0) < 128 then f (a + 0) else f (a + 0) + 4294967040) ≤ 4294967295
    split <;> omega
  · split
    · rename_i h
      subst h
      have e1 : m = 2 := by simp [ldn] at hm; omega
      have := le_rng2 (fun i => f (a + i)) (fun i hi => hg i (by omega))
      split <;> omega
    · rw [hm, show ((m : Int)).toNat = m from by omega]
      have := le_rng (fun i => f (a + i)) m h4 hg
      have e2 : p256 m ≤ 4294967296 := by
        rcases (by omega : m = 0 ∨ m = 1 ∨ m = 2 ∨ m = 3 ∨ m = 4) with e | e | e | e | e <;> (rw [e]; decide)
      omega

theorem memStore_yes {w : World} {R : Nat → Int} {pc : Int} {p : Option Addr} {n c : Nat} {f : Nat → Int} (o : Ok w R pc p n c f) (op B : Int) (a K : Nat) (hK : stn op = (K : Int)) (k0 : 0 < K) (a1 : (a : Int) ≤ 4294967295) (b0 : 0 ≤ B) (b1 : B ≤ 4294967295) (ho : 0 < stn op ∧ (a : Int) % stn op = 0 ∧ (a : Int) + stn op ≤ n) :
    (∀ W, Calls Tryd.prog 71 #[.slice p n c, .int .i64 op, .int .u32 a] W fun e w' => e = .returned (.int .u32 K) ∧ w' = W) ∧
      (∀ W, Below w.heap.size w W → Calls Tryd.prog 41 #[.slice p n c, .int .i64 op, .int .u32 a, .int .u32 B] W fun e w' => (∃ h cap, e = .returned (.tuple #[.slice (some ⟨h, 0, none⟩) n cap, .bool true]) ∧ n ≤ cap ∧ Fr w' W.heap.size h n (sto f a B K)) ∧ Below W.heap.size W w') := by
  have hn := o.hn
  have ho' := ho
  rw [hK] at ho'
  obtain ⟨g, q, hp, hc⟩ := o.hm (by omega)
  refine ⟨fun W => ?_, fun W hW => ?_⟩
  · have h := Stores_yes p n c op a (by omega) (by omega) (by omega) ho W
    rw [hK] at h
    exact h
  · subst hp
    exact tStore_any g q n c op a K B f hK (by omega) (by omega) (by omega) (by omega) (by omega) o.hnc b0 b1 W (hc.below hW)
theorem memStore_no {w : World} {R : Nat → Int} {pc : Int} {p : Option Addr} {n c : Nat} {f : Nat → Int} (o : Ok w R pc p n c f) (op B : Int) (a : Nat) (a1 : (a : Int) ≤ 4294967295) (ho : ¬ (0 < stn op ∧ (a : Int) % stn op = 0 ∧ (a : Int) + stn op ≤ n)) :
    (∀ W, Calls Tryd.prog 71 #[.slice p n c, .int .i64 op, .int .u32 a] W fun e w' => e = .returned (.int .u32 0) ∧ w' = W) ∧
      (∀ W, Below w.heap.size w W → Calls Tryd.prog 41 #[.slice p n c, .int .i64 op, .int .u32 a, .int .u32 B] W fun e w' => e = .returned (.tuple #[.slice none 0 0, .bool false]) ∧ w' = W) := by
  have hn := o.hn
  exact ⟨fun W => Stores_no p n c op a (by omega) (by omega) (by omega) ho W, fun W _ => tStore_no p n c op a B (by omega) (by omega) (by omega) ho W⟩

/-- The fields of an instruction in their ranges. -/
structure Fld (rd s1 s2 : Nat) (I : Int) : Prop where
  lr : rd < 32
  l1 : s1 < 32
  l2 : s2 < 32
  i0 : -2147483648 ≤ I
  i1 : I ≤ 2147483647

theorem hcs_good (R : Nat → Int) (pc st ca : Int) : True := trivial

set_option maxRecDepth 20000 in
set_option maxHeartbeats 1000000 in
theorem gLui {R : Nat → Int} {pc : Int} {n : Nat} {f : Nat → Int} {X I : Int} {rd s1 s2 : Nat} (z : Rng R pc n f) (fl : Fld rd s1 s2 I) (DD : ∀ w p c, Ok w R pc p n c f → Dec w R pc p n c f X 1 rd s1 s2 I) : All R pc n f (allW n f ⟨1, rd, s1, s2, I⟩ pc (R s1) (R s2)) := by
  have hA := hcs_reg R pc 0 0 s1 fl.l1
  have hB := hcs_reg R pc 0 0 s2 fl.l2
  have hRd := hcs_reg R pc 0 0 rd fl.lr
  obtain ⟨a0, a1⟩ := z.hR s1 fl.l1
  obtain ⟨b0, b1⟩ := z.hR s2 fl.l2
  have p0 := z.p0
  have p1 := z.p1
  have fi0 := fl.i0
  have fi1 := fl.i1
  have CO := fun W => rOf_any I W
  have CN := fun W => qsum_any pc 4 p0 p1 (by omega) (by omega) W
  have CT := fun W => qsum_any (R s1) (I % 4294967296) a0 a1 (by omega) (by omega) W
  have hl1 := fl.l1
  have hl2 := fl.l2
  have HF : ∀ W, Calls Tryd.prog 73 #[.int .i64 1, .int .u32 (R s1), .int .u32 (R s2)] W fun e w' => e = .returned (.bool false) ∧ w' = W := fun W => by
    have h := Holds_any 1 (R s1) (R s2) a0 a1 b0 b1 W
    rwa [holds_none _ _ _ (by omega) (by omega) (by omega) (by omega) (by omega) (by omega)] at h
  by_cases h0 : rd = 0
  · have hz : ((rd : Int) != 0) = false := by subst h0; rfl
    have er : (0 : Int) = (rd : Int) := by subst h0; rfl
    have hE : allW n f ⟨1, rd, s1, s2, I⟩ pc (R s1) (R s2) = ⟨pc, ((pc + 4) % 4294967296), 0, 0, 0, (0), 0, 0, 0, false, 0⟩ := by rw [allW_rest n f ⟨1, rd, s1, s2, I⟩ pc (R s1) (R s2) (by show 1 ≤ ((1 : Int)); omega) (by show ((1 : Int)) < 46; omega) (by show ((1 : Int)) < 11 ∨ 18 < ((1 : Int)); omega), nxW_on ⟨1, rd, s1, s2, I⟩ pc (R s1) (R s2) (by show ¬ ((1 : Int) = 3); omega) (by show ¬ ((1 : Int) = 4); omega) (holds_none _ _ _ (by show ¬ ((1 : Int) = 5); omega) (by show ¬ ((1 : Int) = 6); omega) (by show ¬ ((1 : Int) = 7); omega) (by show ¬ ((1 : Int) = 8); omega) (by show ¬ ((1 : Int) = 9); omega) (by show ¬ ((1 : Int) = 10); omega)), rkW_lui ⟨1, rd, s1, s2, I⟩ pc (R s1) (R s2) rfl]; exact giveC_no _ _ _ h0
    have dd : Does n ((pc + 4) % 4294967296) 0 0 0 rd 0 0 0 0 0 0 := ⟨er, rfl, rfl, fl.lr, fun _ => rfl, .inl ⟨rfl, rfl⟩, .inl rfl, by omega, by omega, by omega, by omega, by first | exact hV.1 | omega, by first | exact hV.2 | omega⟩
    refine ⟨_, 0, 0, 0, rd, 0, 0, 0, 0, 0, 0, false, 0, (by first | exact hE | exact hE.trans (by rw [h0])), dd, fun w p c o => ?_⟩
    have d := DD w p c o
    have hbig := o.hT2.size
    have CC : ∀ W, Below w.heap.size w W → Calls Tryd.prog 33 #[hv R pc 0 0, .slice p n c] W fun e w' => e = .returned (cv pc ((pc + 4) % 4294967296) 0 0 0 (0) 0 0 0 false 0) ∧ Below W.heap.size W w' := fun W hW => by have h := hcommit_dec o d (by omega) (by omega) s1 s2 (by unfold ra; exact if_neg (by show ¬ ((1 : Int) = 47); omega)) (by unfold rb; exact if_neg (by show ¬ ((1 : Int) = 47); omega)) (by omega) (by omega) W hW; rw [hE] at h; exact h
    have QQ : ∀ W, Below w.heap.size w W → ∀ D, Hid (Did D (ccs pc ((pc + 4) % 4294967296) 0 0 0 (0) 0 0 0 false 0) ((hcs R pc 0 0).setIfInBounds 32 (.int .u32 ((pc + 4) % 4294967296))) p n c) → Calls Tryd.prog 18 #[hv R pc 0 0, .slice p n c] W fun e w' => e = .returned (.agg D) ∧ Below W.heap.size W w' := fun W hW D hD => qLui_0 (hcs R pc 0 0) pc p n c W X I (I % 4294967296) ((pc + 4) % 4294967296) ((R s1 + I % 4294967296) % 4294967296) (R s1) (R s2) (R rd) rd s1 s2 D rfl (hcs_ones _ _ _ _) rfl rfl rfl hA hB hRd d.l1 d.l2 d.lr d.i0 d.i1 hz (fun W' hW' => d.CLt W' (under hW hW')) d.CDt CO CN CT hD
    exact ⟨stepP o dd CC, stepQ o (by subst h0; rfl) QQ⟩
  · have hz : ((rd : Int) != 0) = true := by simp; omega
    have hE : allW n f ⟨1, rd, s1, s2, I⟩ pc (R s1) (R s2) = ⟨pc, ((pc + 4) % 4294967296), 0, 0, rd, (I % 4294967296), 0, 0, 0, false, 0⟩ := by rw [allW_rest n f ⟨1, rd, s1, s2, I⟩ pc (R s1) (R s2) (by show 1 ≤ ((1 : Int)); omega) (by show ((1 : Int)) < 46; omega) (by show ((1 : Int)) < 11 ∨ 18 < ((1 : Int)); omega), nxW_on ⟨1, rd, s1, s2, I⟩ pc (R s1) (R s2) (by show ¬ ((1 : Int) = 3); omega) (by show ¬ ((1 : Int) = 4); omega) (holds_none _ _ _ (by show ¬ ((1 : Int) = 5); omega) (by show ¬ ((1 : Int) = 6); omega) (by show ¬ ((1 : Int) = 7); omega) (by show ¬ ((1 : Int) = 8); omega) (by show ¬ ((1 : Int) = 9); omega) (by show ¬ ((1 : Int) = 10); omega)), rkW_lui ⟨1, rd, s1, s2, I⟩ pc (R s1) (R s2) rfl]; exact giveC_yes _ _ _ h0
    have dd : Does n ((pc + 4) % 4294967296) 0 0 rd rd (I % 4294967296) 0 0 0 0 0 := ⟨rfl, rfl, rfl, fl.lr, fun h => absurd h h0, .inl ⟨rfl, rfl⟩, .inl rfl, by omega, by omega, by omega, by omega, by first | exact hV.1 | omega, by first | exact hV.2 | omega⟩
    refine ⟨_, 0, 0, rd, rd, _, 0, 0, 0, 0, 0, false, 0, (by first | exact hE | exact hE.trans (by rw [h0])), dd, fun w p c o => ?_⟩
    have d := DD w p c o
    have hbig := o.hT2.size
    have CC : ∀ W, Below w.heap.size w W → Calls Tryd.prog 33 #[hv R pc 0 0, .slice p n c] W fun e w' => e = .returned (cv pc ((pc + 4) % 4294967296) 0 0 rd (I % 4294967296) 0 0 0 false 0) ∧ Below W.heap.size W w' := fun W hW => by have h := hcommit_dec o d (by omega) (by omega) s1 s2 (by unfold ra; exact if_neg (by show ¬ ((1 : Int) = 47); omega)) (by unfold rb; exact if_neg (by show ¬ ((1 : Int) = 47); omega)) (by omega) (by omega) W hW; rw [hE] at h; exact h
    have QQ : ∀ W, Below w.heap.size w W → ∀ D, Hid (Did D (ccs pc ((pc + 4) % 4294967296) 0 0 rd (I % 4294967296) 0 0 0 false 0) (((hcs R pc 0 0).setIfInBounds rd (.int .u32 (I % 4294967296))).setIfInBounds 32 (.int .u32 ((pc + 4) % 4294967296))) p n c) → Calls Tryd.prog 18 #[hv R pc 0 0, .slice p n c] W fun e w' => e = .returned (.agg D) ∧ Below W.heap.size W w' := fun W hW D hD => qLui_1 (hcs R pc 0 0) pc p n c W X I (I % 4294967296) ((pc + 4) % 4294967296) ((R s1 + I % 4294967296) % 4294967296) (R s1) (R s2) (R rd) rd s1 s2 D rfl (hcs_ones _ _ _ _) rfl rfl rfl hA hB hRd d.l1 d.l2 d.lr d.i0 d.i1 hz (fun W' hW' => d.CLt W' (under hW hW')) d.CDt CO CN CT hD
    exact ⟨stepP o dd CC, stepQ o (by rw [setRd _ _ _ _ _ _ h0 d.lr]; rfl) QQ⟩

set_option maxRecDepth 20000 in
set_option maxHeartbeats 1000000 in
theorem gAuipc {R : Nat → Int} {pc : Int} {n : Nat} {f : Nat → Int} {X I : Int} {rd s1 s2 : Nat} (z : Rng R pc n f) (fl : Fld rd s1 s2 I) (DD : ∀ w p c, Ok w R pc p n c f → Dec w R pc p n c f X 2 rd s1 s2 I) : All R pc n f (allW n f ⟨2, rd, s1, s2, I⟩ pc (R s1) (R s2)) := by
  have hA := hcs_reg R pc 0 0 s1 fl.l1
  have hB := hcs_reg R pc 0 0 s2 fl.l2
  have hRd := hcs_reg R pc 0 0 rd fl.lr
  obtain ⟨a0, a1⟩ := z.hR s1 fl.l1
  obtain ⟨b0, b1⟩ := z.hR s2 fl.l2
  have p0 := z.p0
  have p1 := z.p1
  have fi0 := fl.i0
  have fi1 := fl.i1
  have CO := fun W => rOf_any I W
  have CN := fun W => qsum_any pc 4 p0 p1 (by omega) (by omega) W
  have CT := fun W => qsum_any (R s1) (I % 4294967296) a0 a1 (by omega) (by omega) W
  have hl1 := fl.l1
  have hl2 := fl.l2
  have CS := fun W => qsum_any pc (I % 4294967296) p0 p1 (by omega) (by omega) W
  have HF : ∀ W, Calls Tryd.prog 73 #[.int .i64 2, .int .u32 (R s1), .int .u32 (R s2)] W fun e w' => e = .returned (.bool false) ∧ w' = W := fun W => by
    have h := Holds_any 2 (R s1) (R s2) a0 a1 b0 b1 W
    rwa [holds_none _ _ _ (by omega) (by omega) (by omega) (by omega) (by omega) (by omega)] at h
  by_cases h0 : rd = 0
  · have hz : ((rd : Int) != 0) = false := by subst h0; rfl
    have er : (0 : Int) = (rd : Int) := by subst h0; rfl
    have hE : allW n f ⟨2, rd, s1, s2, I⟩ pc (R s1) (R s2) = ⟨pc, ((pc + 4) % 4294967296), 0, 0, 0, (0), 0, 0, 0, false, 0⟩ := by rw [allW_rest n f ⟨2, rd, s1, s2, I⟩ pc (R s1) (R s2) (by show 1 ≤ ((2 : Int)); omega) (by show ((2 : Int)) < 46; omega) (by show ((2 : Int)) < 11 ∨ 18 < ((2 : Int)); omega), nxW_on ⟨2, rd, s1, s2, I⟩ pc (R s1) (R s2) (by show ¬ ((2 : Int) = 3); omega) (by show ¬ ((2 : Int) = 4); omega) (holds_none _ _ _ (by show ¬ ((2 : Int) = 5); omega) (by show ¬ ((2 : Int) = 6); omega) (by show ¬ ((2 : Int) = 7); omega) (by show ¬ ((2 : Int) = 8); omega) (by show ¬ ((2 : Int) = 9); omega) (by show ¬ ((2 : Int) = 10); omega)), rkW_auipc ⟨2, rd, s1, s2, I⟩ pc (R s1) (R s2) rfl]; exact giveC_no _ _ _ h0
    have dd : Does n ((pc + 4) % 4294967296) 0 0 0 rd 0 0 0 0 0 0 := ⟨er, rfl, rfl, fl.lr, fun _ => rfl, .inl ⟨rfl, rfl⟩, .inl rfl, by omega, by omega, by omega, by omega, by first | exact hV.1 | omega, by first | exact hV.2 | omega⟩
    refine ⟨_, 0, 0, 0, rd, 0, 0, 0, 0, 0, 0, false, 0, (by first | exact hE | exact hE.trans (by rw [h0])), dd, fun w p c o => ?_⟩
    have d := DD w p c o
    have hbig := o.hT2.size
    have CC : ∀ W, Below w.heap.size w W → Calls Tryd.prog 33 #[hv R pc 0 0, .slice p n c] W fun e w' => e = .returned (cv pc ((pc + 4) % 4294967296) 0 0 0 (0) 0 0 0 false 0) ∧ Below W.heap.size W w' := fun W hW => by have h := hcommit_dec o d (by omega) (by omega) s1 s2 (by unfold ra; exact if_neg (by show ¬ ((2 : Int) = 47); omega)) (by unfold rb; exact if_neg (by show ¬ ((2 : Int) = 47); omega)) (by omega) (by omega) W hW; rw [hE] at h; exact h
    have QQ : ∀ W, Below w.heap.size w W → ∀ D, Hid (Did D (ccs pc ((pc + 4) % 4294967296) 0 0 0 (0) 0 0 0 false 0) ((hcs R pc 0 0).setIfInBounds 32 (.int .u32 ((pc + 4) % 4294967296))) p n c) → Calls Tryd.prog 18 #[hv R pc 0 0, .slice p n c] W fun e w' => e = .returned (.agg D) ∧ Below W.heap.size W w' := fun W hW D hD => qAuipc_0 (hcs R pc 0 0) pc p n c W X I (I % 4294967296) ((pc + 4) % 4294967296) ((R s1 + I % 4294967296) % 4294967296) (R s1) (R s2) (R rd) rd s1 s2 D ((pc + I % 4294967296) % 4294967296) rfl (hcs_ones _ _ _ _) rfl rfl rfl hA hB hRd d.l1 d.l2 d.lr d.i0 d.i1 hz (fun W' hW' => d.CLt W' (under hW hW')) d.CDt CO CN CT CS hD
    exact ⟨stepP o dd CC, stepQ o (by subst h0; rfl) QQ⟩
  · have hz : ((rd : Int) != 0) = true := by simp; omega
    have hE : allW n f ⟨2, rd, s1, s2, I⟩ pc (R s1) (R s2) = ⟨pc, ((pc + 4) % 4294967296), 0, 0, rd, ((pc + I % 4294967296) % 4294967296), 0, 0, 0, false, 0⟩ := by rw [allW_rest n f ⟨2, rd, s1, s2, I⟩ pc (R s1) (R s2) (by show 1 ≤ ((2 : Int)); omega) (by show ((2 : Int)) < 46; omega) (by show ((2 : Int)) < 11 ∨ 18 < ((2 : Int)); omega), nxW_on ⟨2, rd, s1, s2, I⟩ pc (R s1) (R s2) (by show ¬ ((2 : Int) = 3); omega) (by show ¬ ((2 : Int) = 4); omega) (holds_none _ _ _ (by show ¬ ((2 : Int) = 5); omega) (by show ¬ ((2 : Int) = 6); omega) (by show ¬ ((2 : Int) = 7); omega) (by show ¬ ((2 : Int) = 8); omega) (by show ¬ ((2 : Int) = 9); omega) (by show ¬ ((2 : Int) = 10); omega)), rkW_auipc ⟨2, rd, s1, s2, I⟩ pc (R s1) (R s2) rfl]; exact giveC_yes _ _ _ h0
    have dd : Does n ((pc + 4) % 4294967296) 0 0 rd rd ((pc + I % 4294967296) % 4294967296) 0 0 0 0 0 := ⟨rfl, rfl, rfl, fl.lr, fun h => absurd h h0, .inl ⟨rfl, rfl⟩, .inl rfl, by omega, by omega, by omega, by omega, by first | exact hV.1 | omega, by first | exact hV.2 | omega⟩
    refine ⟨_, 0, 0, rd, rd, _, 0, 0, 0, 0, 0, false, 0, (by first | exact hE | exact hE.trans (by rw [h0])), dd, fun w p c o => ?_⟩
    have d := DD w p c o
    have hbig := o.hT2.size
    have CC : ∀ W, Below w.heap.size w W → Calls Tryd.prog 33 #[hv R pc 0 0, .slice p n c] W fun e w' => e = .returned (cv pc ((pc + 4) % 4294967296) 0 0 rd ((pc + I % 4294967296) % 4294967296) 0 0 0 false 0) ∧ Below W.heap.size W w' := fun W hW => by have h := hcommit_dec o d (by omega) (by omega) s1 s2 (by unfold ra; exact if_neg (by show ¬ ((2 : Int) = 47); omega)) (by unfold rb; exact if_neg (by show ¬ ((2 : Int) = 47); omega)) (by omega) (by omega) W hW; rw [hE] at h; exact h
    have QQ : ∀ W, Below w.heap.size w W → ∀ D, Hid (Did D (ccs pc ((pc + 4) % 4294967296) 0 0 rd ((pc + I % 4294967296) % 4294967296) 0 0 0 false 0) (((hcs R pc 0 0).setIfInBounds rd (.int .u32 ((pc + I % 4294967296) % 4294967296))).setIfInBounds 32 (.int .u32 ((pc + 4) % 4294967296))) p n c) → Calls Tryd.prog 18 #[hv R pc 0 0, .slice p n c] W fun e w' => e = .returned (.agg D) ∧ Below W.heap.size W w' := fun W hW D hD => qAuipc_1 (hcs R pc 0 0) pc p n c W X I (I % 4294967296) ((pc + 4) % 4294967296) ((R s1 + I % 4294967296) % 4294967296) (R s1) (R s2) (R rd) rd s1 s2 D ((pc + I % 4294967296) % 4294967296) rfl (hcs_ones _ _ _ _) rfl rfl rfl hA hB hRd d.l1 d.l2 d.lr d.i0 d.i1 hz (fun W' hW' => d.CLt W' (under hW hW')) d.CDt CO CN CT CS hD
    exact ⟨stepP o dd CC, stepQ o (by rw [setRd _ _ _ _ _ _ h0 d.lr]; rfl) QQ⟩

set_option maxRecDepth 20000 in
set_option maxHeartbeats 1000000 in
theorem gJal {R : Nat → Int} {pc : Int} {n : Nat} {f : Nat → Int} {X I : Int} {rd s1 s2 : Nat} (z : Rng R pc n f) (fl : Fld rd s1 s2 I) (DD : ∀ w p c, Ok w R pc p n c f → Dec w R pc p n c f X 3 rd s1 s2 I) : All R pc n f (allW n f ⟨3, rd, s1, s2, I⟩ pc (R s1) (R s2)) := by
  have hA := hcs_reg R pc 0 0 s1 fl.l1
  have hB := hcs_reg R pc 0 0 s2 fl.l2
  have hRd := hcs_reg R pc 0 0 rd fl.lr
  obtain ⟨a0, a1⟩ := z.hR s1 fl.l1
  obtain ⟨b0, b1⟩ := z.hR s2 fl.l2
  have p0 := z.p0
  have p1 := z.p1
  have fi0 := fl.i0
  have fi1 := fl.i1
  have CO := fun W => rOf_any I W
  have CN := fun W => qsum_any pc 4 p0 p1 (by omega) (by omega) W
  have CT := fun W => qsum_any (R s1) (I % 4294967296) a0 a1 (by omega) (by omega) W
  have hl1 := fl.l1
  have hl2 := fl.l2
  have CS := fun W => qsum_any pc (I % 4294967296) p0 p1 (by omega) (by omega) W
  by_cases h0 : rd = 0
  · have hz : ((rd : Int) != 0) = false := by subst h0; rfl
    have er : (0 : Int) = (rd : Int) := by subst h0; rfl
    have hE : allW n f ⟨3, rd, s1, s2, I⟩ pc (R s1) (R s2) = ⟨pc, ((pc + I % 4294967296) % 4294967296), 0, 0, 0, (0), 0, 0, 0, false, 0⟩ := by rw [allW_rest n f ⟨3, rd, s1, s2, I⟩ pc (R s1) (R s2) (by show 1 ≤ ((3 : Int)); omega) (by show ((3 : Int)) < 46; omega) (by show ((3 : Int)) < 11 ∨ 18 < ((3 : Int)); omega), nxW_jal ⟨3, rd, s1, s2, I⟩ pc (R s1) (R s2) rfl, rkW_link ⟨3, rd, s1, s2, I⟩ pc (R s1) (R s2) (.inl rfl)]; exact giveC_no _ _ _ h0
    have dd : Does n ((pc + I % 4294967296) % 4294967296) 0 0 0 rd 0 0 0 0 0 0 := ⟨er, rfl, rfl, fl.lr, fun _ => rfl, .inl ⟨rfl, rfl⟩, .inl rfl, by omega, by omega, by omega, by omega, by first | exact hV.1 | omega, by first | exact hV.2 | omega⟩
    refine ⟨_, 0, 0, 0, rd, 0, 0, 0, 0, 0, 0, false, 0, (by first | exact hE | exact hE.trans (by rw [h0])), dd, fun w p c o => ?_⟩
    have d := DD w p c o
    have hbig := o.hT2.size
    have CC : ∀ W, Below w.heap.size w W → Calls Tryd.prog 33 #[hv R pc 0 0, .slice p n c] W fun e w' => e = .returned (cv pc ((pc + I % 4294967296) % 4294967296) 0 0 0 (0) 0 0 0 false 0) ∧ Below W.heap.size W w' := fun W hW => by have h := hcommit_dec o d (by omega) (by omega) s1 s2 (by unfold ra; exact if_neg (by show ¬ ((3 : Int) = 47); omega)) (by unfold rb; exact if_neg (by show ¬ ((3 : Int) = 47); omega)) (by omega) (by omega) W hW; rw [hE] at h; exact h
    have QQ : ∀ W, Below w.heap.size w W → ∀ D, Hid (Did D (ccs pc ((pc + I % 4294967296) % 4294967296) 0 0 0 (0) 0 0 0 false 0) ((hcs R pc 0 0).setIfInBounds 32 (.int .u32 ((pc + I % 4294967296) % 4294967296))) p n c) → Calls Tryd.prog 18 #[hv R pc 0 0, .slice p n c] W fun e w' => e = .returned (.agg D) ∧ Below W.heap.size W w' := fun W hW D hD => qJal_0 (hcs R pc 0 0) pc p n c W X I (I % 4294967296) ((pc + 4) % 4294967296) ((R s1 + I % 4294967296) % 4294967296) (R s1) (R s2) (R rd) rd s1 s2 D ((pc + I % 4294967296) % 4294967296) rfl (hcs_ones _ _ _ _) rfl rfl rfl hA hB hRd d.l1 d.l2 d.lr d.i0 d.i1 hz (fun W' hW' => d.CLt W' (under hW hW')) d.CDt CO CN CT CS hD
    exact ⟨stepP o dd CC, stepQ o (by subst h0; rfl) QQ⟩
  · have hz : ((rd : Int) != 0) = true := by simp; omega
    have hE : allW n f ⟨3, rd, s1, s2, I⟩ pc (R s1) (R s2) = ⟨pc, ((pc + I % 4294967296) % 4294967296), 0, 0, rd, ((pc + 4) % 4294967296), 0, 0, 0, false, 0⟩ := by rw [allW_rest n f ⟨3, rd, s1, s2, I⟩ pc (R s1) (R s2) (by show 1 ≤ ((3 : Int)); omega) (by show ((3 : Int)) < 46; omega) (by show ((3 : Int)) < 11 ∨ 18 < ((3 : Int)); omega), nxW_jal ⟨3, rd, s1, s2, I⟩ pc (R s1) (R s2) rfl, rkW_link ⟨3, rd, s1, s2, I⟩ pc (R s1) (R s2) (.inl rfl)]; exact giveC_yes _ _ _ h0
    have dd : Does n ((pc + I % 4294967296) % 4294967296) 0 0 rd rd ((pc + 4) % 4294967296) 0 0 0 0 0 := ⟨rfl, rfl, rfl, fl.lr, fun h => absurd h h0, .inl ⟨rfl, rfl⟩, .inl rfl, by omega, by omega, by omega, by omega, by first | exact hV.1 | omega, by first | exact hV.2 | omega⟩
    refine ⟨_, 0, 0, rd, rd, _, 0, 0, 0, 0, 0, false, 0, (by first | exact hE | exact hE.trans (by rw [h0])), dd, fun w p c o => ?_⟩
    have d := DD w p c o
    have hbig := o.hT2.size
    have CC : ∀ W, Below w.heap.size w W → Calls Tryd.prog 33 #[hv R pc 0 0, .slice p n c] W fun e w' => e = .returned (cv pc ((pc + I % 4294967296) % 4294967296) 0 0 rd ((pc + 4) % 4294967296) 0 0 0 false 0) ∧ Below W.heap.size W w' := fun W hW => by have h := hcommit_dec o d (by omega) (by omega) s1 s2 (by unfold ra; exact if_neg (by show ¬ ((3 : Int) = 47); omega)) (by unfold rb; exact if_neg (by show ¬ ((3 : Int) = 47); omega)) (by omega) (by omega) W hW; rw [hE] at h; exact h
    have QQ : ∀ W, Below w.heap.size w W → ∀ D, Hid (Did D (ccs pc ((pc + I % 4294967296) % 4294967296) 0 0 rd ((pc + 4) % 4294967296) 0 0 0 false 0) (((hcs R pc 0 0).setIfInBounds rd (.int .u32 ((pc + 4) % 4294967296))).setIfInBounds 32 (.int .u32 ((pc + I % 4294967296) % 4294967296))) p n c) → Calls Tryd.prog 18 #[hv R pc 0 0, .slice p n c] W fun e w' => e = .returned (.agg D) ∧ Below W.heap.size W w' := fun W hW D hD => qJal_1 (hcs R pc 0 0) pc p n c W X I (I % 4294967296) ((pc + 4) % 4294967296) ((R s1 + I % 4294967296) % 4294967296) (R s1) (R s2) (R rd) rd s1 s2 D ((pc + I % 4294967296) % 4294967296) rfl (hcs_ones _ _ _ _) rfl rfl rfl hA hB hRd d.l1 d.l2 d.lr d.i0 d.i1 hz (fun W' hW' => d.CLt W' (under hW hW')) d.CDt CO CN CT CS hD
    exact ⟨stepP o dd CC, stepQ o (by rw [setRd _ _ _ _ _ _ h0 d.lr]; rfl) QQ⟩

set_option maxRecDepth 20000 in
set_option maxHeartbeats 1000000 in
theorem gJalr {R : Nat → Int} {pc : Int} {n : Nat} {f : Nat → Int} {X I : Int} {rd s1 s2 : Nat} (z : Rng R pc n f) (fl : Fld rd s1 s2 I) (DD : ∀ w p c, Ok w R pc p n c f → Dec w R pc p n c f X 4 rd s1 s2 I) : All R pc n f (allW n f ⟨4, rd, s1, s2, I⟩ pc (R s1) (R s2)) := by
  have hA := hcs_reg R pc 0 0 s1 fl.l1
  have hB := hcs_reg R pc 0 0 s2 fl.l2
  have hRd := hcs_reg R pc 0 0 rd fl.lr
  obtain ⟨a0, a1⟩ := z.hR s1 fl.l1
  obtain ⟨b0, b1⟩ := z.hR s2 fl.l2
  have p0 := z.p0
  have p1 := z.p1
  have fi0 := fl.i0
  have fi1 := fl.i1
  have CO := fun W => rOf_any I W
  have CN := fun W => qsum_any pc 4 p0 p1 (by omega) (by omega) W
  have CT := fun W => qsum_any (R s1) (I % 4294967296) a0 a1 (by omega) (by omega) W
  have hl1 := fl.l1
  have hl2 := fl.l2
  have HF : ∀ W, Calls Tryd.prog 73 #[.int .i64 4, .int .u32 (R s1), .int .u32 (R s2)] W fun e w' => e = .returned (.bool false) ∧ w' = W := fun W => by
    have h := Holds_any 4 (R s1) (R s2) a0 a1 b0 b1 W
    rwa [holds_none _ _ _ (by omega) (by omega) (by omega) (by omega) (by omega) (by omega)] at h
  by_cases h0 : rd = 0
  · have hz : ((rd : Int) != 0) = false := by subst h0; rfl
    have er : (0 : Int) = (rd : Int) := by subst h0; rfl
    have hE : allW n f ⟨4, rd, s1, s2, I⟩ pc (R s1) (R s2) = ⟨pc, ((R s1 + I % 4294967296) % 4294967296 - (R s1 + I % 4294967296) % 4294967296 % 2), 0, 0, 0, (0), 0, 0, 0, false, 0⟩ := by rw [allW_rest n f ⟨4, rd, s1, s2, I⟩ pc (R s1) (R s2) (by show 1 ≤ ((4 : Int)); omega) (by show ((4 : Int)) < 46; omega) (by show ((4 : Int)) < 11 ∨ 18 < ((4 : Int)); omega), nxW_jalr ⟨4, rd, s1, s2, I⟩ pc (R s1) (R s2) rfl, rkW_link ⟨4, rd, s1, s2, I⟩ pc (R s1) (R s2) (.inr rfl)]; exact giveC_no _ _ _ h0
    have dd : Does n ((R s1 + I % 4294967296) % 4294967296 - (R s1 + I % 4294967296) % 4294967296 % 2) 0 0 0 rd 0 0 0 0 0 0 := ⟨er, rfl, rfl, fl.lr, fun _ => rfl, .inl ⟨rfl, rfl⟩, .inl rfl, by omega, by omega, by omega, by omega, by first | exact hV.1 | omega, by first | exact hV.2 | omega⟩
    refine ⟨_, 0, 0, 0, rd, 0, 0, 0, 0, 0, 0, false, 0, (by first | exact hE | exact hE.trans (by rw [h0])), dd, fun w p c o => ?_⟩
    have d := DD w p c o
    have hbig := o.hT2.size
    have CC : ∀ W, Below w.heap.size w W → Calls Tryd.prog 33 #[hv R pc 0 0, .slice p n c] W fun e w' => e = .returned (cv pc ((R s1 + I % 4294967296) % 4294967296 - (R s1 + I % 4294967296) % 4294967296 % 2) 0 0 0 (0) 0 0 0 false 0) ∧ Below W.heap.size W w' := fun W hW => by have h := hcommit_dec o d (by omega) (by omega) s1 s2 (by unfold ra; exact if_neg (by show ¬ ((4 : Int) = 47); omega)) (by unfold rb; exact if_neg (by show ¬ ((4 : Int) = 47); omega)) (by omega) (by omega) W hW; rw [hE] at h; exact h
    have QQ : ∀ W, Below w.heap.size w W → ∀ D, Hid (Did D (ccs pc ((R s1 + I % 4294967296) % 4294967296 - (R s1 + I % 4294967296) % 4294967296 % 2) 0 0 0 (0) 0 0 0 false 0) ((hcs R pc 0 0).setIfInBounds 32 (.int .u32 ((R s1 + I % 4294967296) % 4294967296 - (R s1 + I % 4294967296) % 4294967296 % 2))) p n c) → Calls Tryd.prog 18 #[hv R pc 0 0, .slice p n c] W fun e w' => e = .returned (.agg D) ∧ Below W.heap.size W w' := fun W hW D hD => qJalr_0 (hcs R pc 0 0) pc p n c W X I (I % 4294967296) ((pc + 4) % 4294967296) ((R s1 + I % 4294967296) % 4294967296) (R s1) (R s2) (R rd) rd s1 s2 D (by omega) (by omega) rfl (hcs_ones _ _ _ _) rfl rfl rfl hA hB hRd d.l1 d.l2 d.lr d.i0 d.i1 hz (fun W' hW' => d.CLt W' (under hW hW')) d.CDt CO CN CT hD
    exact ⟨stepP o dd CC, stepQ o (by subst h0; rfl) QQ⟩
  · have hz : ((rd : Int) != 0) = true := by simp; omega
    have hE : allW n f ⟨4, rd, s1, s2, I⟩ pc (R s1) (R s2) = ⟨pc, ((R s1 + I % 4294967296) % 4294967296 - (R s1 + I % 4294967296) % 4294967296 % 2), 0, 0, rd, ((pc + 4) % 4294967296), 0, 0, 0, false, 0⟩ := by rw [allW_rest n f ⟨4, rd, s1, s2, I⟩ pc (R s1) (R s2) (by show 1 ≤ ((4 : Int)); omega) (by show ((4 : Int)) < 46; omega) (by show ((4 : Int)) < 11 ∨ 18 < ((4 : Int)); omega), nxW_jalr ⟨4, rd, s1, s2, I⟩ pc (R s1) (R s2) rfl, rkW_link ⟨4, rd, s1, s2, I⟩ pc (R s1) (R s2) (.inr rfl)]; exact giveC_yes _ _ _ h0
    have dd : Does n ((R s1 + I % 4294967296) % 4294967296 - (R s1 + I % 4294967296) % 4294967296 % 2) 0 0 rd rd ((pc + 4) % 4294967296) 0 0 0 0 0 := ⟨rfl, rfl, rfl, fl.lr, fun h => absurd h h0, .inl ⟨rfl, rfl⟩, .inl rfl, by omega, by omega, by omega, by omega, by first | exact hV.1 | omega, by first | exact hV.2 | omega⟩
    refine ⟨_, 0, 0, rd, rd, _, 0, 0, 0, 0, 0, false, 0, (by first | exact hE | exact hE.trans (by rw [h0])), dd, fun w p c o => ?_⟩
    have d := DD w p c o
    have hbig := o.hT2.size
    have CC : ∀ W, Below w.heap.size w W → Calls Tryd.prog 33 #[hv R pc 0 0, .slice p n c] W fun e w' => e = .returned (cv pc ((R s1 + I % 4294967296) % 4294967296 - (R s1 + I % 4294967296) % 4294967296 % 2) 0 0 rd ((pc + 4) % 4294967296) 0 0 0 false 0) ∧ Below W.heap.size W w' := fun W hW => by have h := hcommit_dec o d (by omega) (by omega) s1 s2 (by unfold ra; exact if_neg (by show ¬ ((4 : Int) = 47); omega)) (by unfold rb; exact if_neg (by show ¬ ((4 : Int) = 47); omega)) (by omega) (by omega) W hW; rw [hE] at h; exact h
    have QQ : ∀ W, Below w.heap.size w W → ∀ D, Hid (Did D (ccs pc ((R s1 + I % 4294967296) % 4294967296 - (R s1 + I % 4294967296) % 4294967296 % 2) 0 0 rd ((pc + 4) % 4294967296) 0 0 0 false 0) (((hcs R pc 0 0).setIfInBounds rd (.int .u32 ((pc + 4) % 4294967296))).setIfInBounds 32 (.int .u32 ((R s1 + I % 4294967296) % 4294967296 - (R s1 + I % 4294967296) % 4294967296 % 2))) p n c) → Calls Tryd.prog 18 #[hv R pc 0 0, .slice p n c] W fun e w' => e = .returned (.agg D) ∧ Below W.heap.size W w' := fun W hW D hD => qJalr_1 (hcs R pc 0 0) pc p n c W X I (I % 4294967296) ((pc + 4) % 4294967296) ((R s1 + I % 4294967296) % 4294967296) (R s1) (R s2) (R rd) rd s1 s2 D (by omega) (by omega) rfl (hcs_ones _ _ _ _) rfl rfl rfl hA hB hRd d.l1 d.l2 d.lr d.i0 d.i1 hz (fun W' hW' => d.CLt W' (under hW hW')) d.CDt CO CN CT hD
    exact ⟨stepP o dd CC, stepQ o (by rw [setRd _ _ _ _ _ _ h0 d.lr]; rfl) QQ⟩

end Go.Proofs.YtpiohehijkpghaaDoor
namespace Go.Proofs.YtpiohehijkpghaaDoor
open Go.RowKit
open Hy
set_option linter.unusedVariables false

theorem itab_branch : ∀ m, m < 11 → 5 ≤ m → itab.getD m 0 = 0 := by decide
theorem itab_reg : ∀ m, m < 46 → 28 ≤ m → itab.getD m 0 = 0 := by decide

set_option maxRecDepth 20000 in
set_option maxHeartbeats 1000000 in
theorem gBranch {R : Nat → Int} {pc : Int} {n : Nat} {f : Nat → Int} {X I : Int} {rd s1 s2 : Nat} {m : Nat} (z : Rng R pc n f) (fl : Fld rd s1 s2 I) (m0 : 5 ≤ m) (m1 : m ≤ 10) (h0 : rd = 0) (DD : ∀ w p c, Ok w R pc p n c f → Dec w R pc p n c f X m rd s1 s2 I) : All R pc n f (allW n f ⟨m, rd, s1, s2, I⟩ pc (R s1) (R s2)) := by
  have hA := hcs_reg R pc 0 0 s1 fl.l1
  have hB := hcs_reg R pc 0 0 s2 fl.l2
  have hRd := hcs_reg R pc 0 0 rd fl.lr
  obtain ⟨a0, a1⟩ := z.hR s1 fl.l1
  obtain ⟨b0, b1⟩ := z.hR s2 fl.l2
  have p0 := z.p0
  have p1 := z.p1
  have fi0 := fl.i0
  have fi1 := fl.i1
  have CO := fun W => rOf_any I W
  have CN := fun W => qsum_any pc 4 p0 p1 (by omega) (by omega) W
  have CT := fun W => qsum_any (R s1) (I % 4294967296) a0 a1 (by omega) (by omega) W
  have hl1 := fl.l1
  have hl2 := fl.l2
  have hrd : (0 : Int) = (rd : Int) := by subst h0; rfl
  have CS := fun W => qsum_any pc (I % 4294967296) p0 p1 (by omega) (by omega) W
  have hti : itab.getD m 0 = 0 := itab_branch m (by omega) m0
  have CAl := fun W => Alu_any m (R s1) (R s2) a0 a1 b0 b1 W
  have hH := fun W => Holds_any m (R s1) (R s2) a0 a1 b0 b1 W
  have hrH := fun W => rHolds_any m (R s1) (R s2) a0 a1 b0 b1 W
  cases hb : holds m (R s1) (R s2) with
  | true =>
    rw [hb] at hH hrH
    have hE : allW n f ⟨m, rd, s1, s2, I⟩ pc (R s1) (R s2) = ⟨pc, ((pc + I % 4294967296) % 4294967296), 0, 0, 0, (0), 0, 0, 0, false, 0⟩ := by rw [allW_rest n f ⟨m, rd, s1, s2, I⟩ pc (R s1) (R s2) (by show 1 ≤ ((m : Int)); omega) (by show ((m : Int)) < 46; omega) (by show ((m : Int)) < 11 ∨ 18 < ((m : Int)); omega), nxW_go ⟨m, rd, s1, s2, I⟩ pc (R s1) (R s2) (by show ¬ ((m : Int) = 3); omega) (by show ¬ ((m : Int) = 4); omega) hb, rkW_reg ⟨m, rd, s1, s2, I⟩ pc (R s1) (R s2) (by show 5 ≤ (m : Int); omega) (by show ¬ (19 ≤ (m : Int) ∧ (m : Int) ≤ 27); omega)]; exact giveC_no _ _ _ h0
    have dd : Does n ((pc + I % 4294967296) % 4294967296) 0 0 0 rd 0 0 0 0 0 0 := ⟨hrd, rfl, rfl, fl.lr, fun _ => rfl, .inl ⟨rfl, rfl⟩, .inl rfl, by omega, by omega, by omega, by omega, by first | exact hV.1 | omega, by first | exact hV.2 | omega⟩
    refine ⟨_, 0, 0, 0, rd, 0, 0, 0, 0, 0, 0, false, 0, (by first | exact hE | exact hE.trans (by rw [h0])), dd, fun w p c o => ?_⟩
    have d := DD w p c o
    have hbig := o.hT2.size
    have CC : ∀ W, Below w.heap.size w W → Calls Tryd.prog 33 #[hv R pc 0 0, .slice p n c] W fun e w' => e = .returned (cv pc ((pc + I % 4294967296) % 4294967296) 0 0 0 (0) 0 0 0 false 0) ∧ Below W.heap.size W w' := fun W hW => by have h := hcommit_dec o d (by omega) (by omega) s1 s2 (by unfold ra; exact if_neg (by show ¬ ((m : Int) = 47); omega)) (by unfold rb; exact if_neg (by show ¬ ((m : Int) = 47); omega)) (by omega) (by omega) W hW; rw [hE] at h; exact h
    have QQ : ∀ W, Below w.heap.size w W → ∀ D, Hid (Did D (ccs pc ((pc + I % 4294967296) % 4294967296) 0 0 0 (0) 0 0 0 false 0) ((hcs R pc 0 0).setIfInBounds 32 (.int .u32 ((pc + I % 4294967296) % 4294967296))) p n c) → Calls Tryd.prog 18 #[hv R pc 0 0, .slice p n c] W fun e w' => e = .returned (.agg D) ∧ Below W.heap.size W w' := fun W hW D hD => qBrY (hcs R pc 0 0) pc p n c W X I (I % 4294967296) ((pc + 4) % 4294967296) ((R s1 + I % 4294967296) % 4294967296) (R s1) (R s2) (R rd) rd s1 s2 D m ((pc + I % 4294967296) % 4294967296) (by omega) (by omega) rfl (hcs_ones _ _ _ _) rfl rfl rfl hA hB hRd d.l1 d.l2 d.lr d.i0 d.i1 (fun W' hW' => d.CLt W' (under hW hW')) d.CDt CO CN CT CS hrH hD
    exact ⟨stepP o dd CC, stepQ o (by subst h0; rfl) QQ⟩
  | false =>
    rw [hb] at hH hrH
    have hE : allW n f ⟨m, rd, s1, s2, I⟩ pc (R s1) (R s2) = ⟨pc, ((pc + 4) % 4294967296), 0, 0, 0, (0), 0, 0, 0, false, 0⟩ := by rw [allW_rest n f ⟨m, rd, s1, s2, I⟩ pc (R s1) (R s2) (by show 1 ≤ ((m : Int)); omega) (by show ((m : Int)) < 46; omega) (by show ((m : Int)) < 11 ∨ 18 < ((m : Int)); omega), nxW_on ⟨m, rd, s1, s2, I⟩ pc (R s1) (R s2) (by show ¬ ((m : Int) = 3); omega) (by show ¬ ((m : Int) = 4); omega) (hb), rkW_reg ⟨m, rd, s1, s2, I⟩ pc (R s1) (R s2) (by show 5 ≤ (m : Int); omega) (by show ¬ (19 ≤ (m : Int) ∧ (m : Int) ≤ 27); omega)]; exact giveC_no _ _ _ h0
    have dd : Does n ((pc + 4) % 4294967296) 0 0 0 rd 0 0 0 0 0 0 := ⟨hrd, rfl, rfl, fl.lr, fun _ => rfl, .inl ⟨rfl, rfl⟩, .inl rfl, by omega, by omega, by omega, by omega, by first | exact hV.1 | omega, by first | exact hV.2 | omega⟩
    refine ⟨_, 0, 0, 0, rd, 0, 0, 0, 0, 0, 0, false, 0, (by first | exact hE | exact hE.trans (by rw [h0])), dd, fun w p c o => ?_⟩
    have d := DD w p c o
    have hbig := o.hT2.size
    have CC : ∀ W, Below w.heap.size w W → Calls Tryd.prog 33 #[hv R pc 0 0, .slice p n c] W fun e w' => e = .returned (cv pc ((pc + 4) % 4294967296) 0 0 0 (0) 0 0 0 false 0) ∧ Below W.heap.size W w' := fun W hW => by have h := hcommit_dec o d (by omega) (by omega) s1 s2 (by unfold ra; exact if_neg (by show ¬ ((m : Int) = 47); omega)) (by unfold rb; exact if_neg (by show ¬ ((m : Int) = 47); omega)) (by omega) (by omega) W hW; rw [hE] at h; exact h
    have QQ : ∀ W, Below w.heap.size w W → ∀ D, Hid (Did D (ccs pc ((pc + 4) % 4294967296) 0 0 0 (0) 0 0 0 false 0) ((hcs R pc 0 0).setIfInBounds 32 (.int .u32 ((pc + 4) % 4294967296))) p n c) → Calls Tryd.prog 18 #[hv R pc 0 0, .slice p n c] W fun e w' => e = .returned (.agg D) ∧ Below W.heap.size W w' := fun W hW D hD => qBrN (hcs R pc 0 0) pc p n c W X I (I % 4294967296) ((pc + 4) % 4294967296) ((R s1 + I % 4294967296) % 4294967296) (R s1) (R s2) (R rd) rd s1 s2 D m (by omega) (by omega) rfl (hcs_ones _ _ _ _) rfl rfl rfl hA hB hRd d.l1 d.l2 d.lr d.i0 d.i1 (fun W' hW' => d.CLt W' (under hW hW')) d.CDt CO CN CT hrH hD
    exact ⟨stepP o dd CC, stepQ o (by subst h0; rfl) QQ⟩

set_option maxRecDepth 20000 in
set_option maxHeartbeats 1000000 in
theorem gImm {R : Nat → Int} {pc : Int} {n : Nat} {f : Nat → Int} {X I : Int} {rd s1 s2 : Nat} {m : Nat} (z : Rng R pc n f) (fl : Fld rd s1 s2 I) (m0 : 19 ≤ m) (m1 : m ≤ 27) (DD : ∀ w p c, Ok w R pc p n c f → Dec w R pc p n c f X m rd s1 s2 I) : All R pc n f (allW n f ⟨m, rd, s1, s2, I⟩ pc (R s1) (R s2)) := by
  have hA := hcs_reg R pc 0 0 s1 fl.l1
  have hB := hcs_reg R pc 0 0 s2 fl.l2
  have hRd := hcs_reg R pc 0 0 rd fl.lr
  obtain ⟨a0, a1⟩ := z.hR s1 fl.l1
  obtain ⟨b0, b1⟩ := z.hR s2 fl.l2
  have p0 := z.p0
  have p1 := z.p1
  have fi0 := fl.i0
  have fi1 := fl.i1
  have CO := fun W => rOf_any I W
  have CN := fun W => qsum_any pc 4 p0 p1 (by omega) (by omega) W
  have CT := fun W => qsum_any (R s1) (I % 4294967296) a0 a1 (by omega) (by omega) W
  have hl1 := fl.l1
  have hl2 := fl.l2
  have hV := alu_range (opn m) (R s1) (I % 4294967296) a0 a1 (by omega) (by omega)
  have HF : ∀ W, Calls Tryd.prog 73 #[.int .i64 m, .int .u32 (R s1), .int .u32 (R s2)] W fun e w' => e = .returned (.bool false) ∧ w' = W := fun W => by
    have h := Holds_any m (R s1) (R s2) a0 a1 b0 b1 W
    rwa [holds_none _ _ _ (by omega) (by omega) (by omega) (by omega) (by omega) (by omega)] at h
  by_cases h0 : rd = 0
  · have hz : ((rd : Int) != 0) = false := by subst h0; rfl
    have er : (0 : Int) = (rd : Int) := by subst h0; rfl
    have hE : allW n f ⟨m, rd, s1, s2, I⟩ pc (R s1) (R s2) = ⟨pc, ((pc + 4) % 4294967296), 0, 0, 0, (0), 0, 0, 0, false, 0⟩ := by rw [allW_rest n f ⟨m, rd, s1, s2, I⟩ pc (R s1) (R s2) (by show 1 ≤ ((m : Int)); omega) (by show ((m : Int)) < 46; omega) (by show ((m : Int)) < 11 ∨ 18 < ((m : Int)); omega), nxW_on ⟨m, rd, s1, s2, I⟩ pc (R s1) (R s2) (by show ¬ ((m : Int) = 3); omega) (by show ¬ ((m : Int) = 4); omega) (holds_none _ _ _ (by show ¬ ((m : Int) = 5); omega) (by show ¬ ((m : Int) = 6); omega) (by show ¬ ((m : Int) = 7); omega) (by show ¬ ((m : Int) = 8); omega) (by show ¬ ((m : Int) = 9); omega) (by show ¬ ((m : Int) = 10); omega)), rkW_imm ⟨m, rd, s1, s2, I⟩ pc (R s1) (R s2) (by show 19 ≤ (m : Int) ∧ (m : Int) ≤ 27; omega)]; exact giveC_no _ _ _ h0
    have dd : Does n ((pc + 4) % 4294967296) 0 0 0 rd 0 0 0 0 0 0 := ⟨er, rfl, rfl, fl.lr, fun _ => rfl, .inl ⟨rfl, rfl⟩, .inl rfl, by omega, by omega, by omega, by omega, by first | exact hV.1 | omega, by first | exact hV.2 | omega⟩
    refine ⟨_, 0, 0, 0, rd, 0, 0, 0, 0, 0, 0, false, 0, (by first | exact hE | exact hE.trans (by rw [h0])), dd, fun w p c o => ?_⟩
    have d := DD w p c o
    have hbig := o.hT2.size
    have CC : ∀ W, Below w.heap.size w W → Calls Tryd.prog 33 #[hv R pc 0 0, .slice p n c] W fun e w' => e = .returned (cv pc ((pc + 4) % 4294967296) 0 0 0 (0) 0 0 0 false 0) ∧ Below W.heap.size W w' := fun W hW => by have h := hcommit_dec o d (by omega) (by omega) s1 s2 (by unfold ra; exact if_neg (by show ¬ ((m : Int) = 47); omega)) (by unfold rb; exact if_neg (by show ¬ ((m : Int) = 47); omega)) (by omega) (by omega) W hW; rw [hE] at h; exact h
    have QQ : ∀ W, Below w.heap.size w W → ∀ D, Hid (Did D (ccs pc ((pc + 4) % 4294967296) 0 0 0 (0) 0 0 0 false 0) ((hcs R pc 0 0).setIfInBounds 32 (.int .u32 ((pc + 4) % 4294967296))) p n c) → Calls Tryd.prog 18 #[hv R pc 0 0, .slice p n c] W fun e w' => e = .returned (.agg D) ∧ Below W.heap.size W w' := fun W hW D hD => qImm_0 (hcs R pc 0 0) pc p n c W X I (I % 4294967296) ((pc + 4) % 4294967296) ((R s1 + I % 4294967296) % 4294967296) (R s1) (R s2) (R rd) rd s1 s2 D m (alu (opn m) (R s1) (I % 4294967296)) (opn m) (by omega) (by omega) rfl (hcs_ones _ _ _ _) rfl rfl rfl hA hB hRd d.l1 d.l2 d.lr d.i0 d.i1 hz (fun W' hW' => d.CLt W' (under hW hW')) d.CDt CO CN CT (fun W => qoperation_any m W) (fun W => rAlu_any (opn m) (R s1) (I % 4294967296) a0 a1 (by omega) (by omega) W) hD
    exact ⟨stepP o dd CC, stepQ o (by subst h0; rfl) QQ⟩
  · have hz : ((rd : Int) != 0) = true := by simp; omega
    have hE : allW n f ⟨m, rd, s1, s2, I⟩ pc (R s1) (R s2) = ⟨pc, ((pc + 4) % 4294967296), 0, 0, rd, (alu (opn m) (R s1) (I % 4294967296)), 0, 0, 0, false, 0⟩ := by rw [allW_rest n f ⟨m, rd, s1, s2, I⟩ pc (R s1) (R s2) (by show 1 ≤ ((m : Int)); omega) (by show ((m : Int)) < 46; omega) (by show ((m : Int)) < 11 ∨ 18 < ((m : Int)); omega), nxW_on ⟨m, rd, s1, s2, I⟩ pc (R s1) (R s2) (by show ¬ ((m : Int) = 3); omega) (by show ¬ ((m : Int) = 4); omega) (holds_none _ _ _ (by show ¬ ((m : Int) = 5); omega) (by show ¬ ((m : Int) = 6); omega) (by show ¬ ((m : Int) = 7); omega) (by show ¬ ((m : Int) = 8); omega) (by show ¬ ((m : Int) = 9); omega) (by show ¬ ((m : Int) = 10); omega)), rkW_imm ⟨m, rd, s1, s2, I⟩ pc (R s1) (R s2) (by show 19 ≤ (m : Int) ∧ (m : Int) ≤ 27; omega)]; exact giveC_yes _ _ _ h0
    have dd : Does n ((pc + 4) % 4294967296) 0 0 rd rd (alu (opn m) (R s1) (I % 4294967296)) 0 0 0 0 0 := ⟨rfl, rfl, rfl, fl.lr, fun h => absurd h h0, .inl ⟨rfl, rfl⟩, .inl rfl, by omega, by omega, by omega, by omega, by first | exact hV.1 | omega, by first | exact hV.2 | omega⟩
    refine ⟨_, 0, 0, rd, rd, _, 0, 0, 0, 0, 0, false, 0, (by first | exact hE | exact hE.trans (by rw [h0])), dd, fun w p c o => ?_⟩
    have d := DD w p c o
    have hbig := o.hT2.size
    have CC : ∀ W, Below w.heap.size w W → Calls Tryd.prog 33 #[hv R pc 0 0, .slice p n c] W fun e w' => e = .returned (cv pc ((pc + 4) % 4294967296) 0 0 rd (alu (opn m) (R s1) (I % 4294967296)) 0 0 0 false 0) ∧ Below W.heap.size W w' := fun W hW => by have h := hcommit_dec o d (by omega) (by omega) s1 s2 (by unfold ra; exact if_neg (by show ¬ ((m : Int) = 47); omega)) (by unfold rb; exact if_neg (by show ¬ ((m : Int) = 47); omega)) (by omega) (by omega) W hW; rw [hE] at h; exact h
    have QQ : ∀ W, Below w.heap.size w W → ∀ D, Hid (Did D (ccs pc ((pc + 4) % 4294967296) 0 0 rd (alu (opn m) (R s1) (I % 4294967296)) 0 0 0 false 0) (((hcs R pc 0 0).setIfInBounds rd (.int .u32 (alu (opn m) (R s1) (I % 4294967296)))).setIfInBounds 32 (.int .u32 ((pc + 4) % 4294967296))) p n c) → Calls Tryd.prog 18 #[hv R pc 0 0, .slice p n c] W fun e w' => e = .returned (.agg D) ∧ Below W.heap.size W w' := fun W hW D hD => qImm_1 (hcs R pc 0 0) pc p n c W X I (I % 4294967296) ((pc + 4) % 4294967296) ((R s1 + I % 4294967296) % 4294967296) (R s1) (R s2) (R rd) rd s1 s2 D m (alu (opn m) (R s1) (I % 4294967296)) (opn m) (by omega) (by omega) rfl (hcs_ones _ _ _ _) rfl rfl rfl hA hB hRd d.l1 d.l2 d.lr d.i0 d.i1 hz (fun W' hW' => d.CLt W' (under hW hW')) d.CDt CO CN CT (fun W => qoperation_any m W) (fun W => rAlu_any (opn m) (R s1) (I % 4294967296) a0 a1 (by omega) (by omega) W) hD
    exact ⟨stepP o dd CC, stepQ o (by rw [setRd _ _ _ _ _ _ h0 d.lr]; rfl) QQ⟩

set_option maxRecDepth 20000 in
set_option maxHeartbeats 1000000 in
theorem gReg {R : Nat → Int} {pc : Int} {n : Nat} {f : Nat → Int} {X I : Int} {rd s1 s2 : Nat} {m : Nat} (z : Rng R pc n f) (fl : Fld rd s1 s2 I) (m0 : 28 ≤ m) (m1 : m ≤ 45) (DD : ∀ w p c, Ok w R pc p n c f → Dec w R pc p n c f X m rd s1 s2 I) : All R pc n f (allW n f ⟨m, rd, s1, s2, I⟩ pc (R s1) (R s2)) := by
  have hA := hcs_reg R pc 0 0 s1 fl.l1
  have hB := hcs_reg R pc 0 0 s2 fl.l2
  have hRd := hcs_reg R pc 0 0 rd fl.lr
  obtain ⟨a0, a1⟩ := z.hR s1 fl.l1
  obtain ⟨b0, b1⟩ := z.hR s2 fl.l2
  have p0 := z.p0
  have p1 := z.p1
  have fi0 := fl.i0
  have fi1 := fl.i1
  have CO := fun W => rOf_any I W
  have CN := fun W => qsum_any pc 4 p0 p1 (by omega) (by omega) W
  have CT := fun W => qsum_any (R s1) (I % 4294967296) a0 a1 (by omega) (by omega) W
  have hl1 := fl.l1
  have hl2 := fl.l2
  have hV := alu_range m (R s1) (R s2) a0 a1 b0 b1
  have HF : ∀ W, Calls Tryd.prog 73 #[.int .i64 m, .int .u32 (R s1), .int .u32 (R s2)] W fun e w' => e = .returned (.bool false) ∧ w' = W := fun W => by
    have h := Holds_any m (R s1) (R s2) a0 a1 b0 b1 W
    rwa [holds_none _ _ _ (by omega) (by omega) (by omega) (by omega) (by omega) (by omega)] at h
  by_cases h0 : rd = 0
  · have hz : ((rd : Int) != 0) = false := by subst h0; rfl
    have er : (0 : Int) = (rd : Int) := by subst h0; rfl
    have hE : allW n f ⟨m, rd, s1, s2, I⟩ pc (R s1) (R s2) = ⟨pc, ((pc + 4) % 4294967296), 0, 0, 0, (0), 0, 0, 0, false, 0⟩ := by rw [allW_rest n f ⟨m, rd, s1, s2, I⟩ pc (R s1) (R s2) (by show 1 ≤ ((m : Int)); omega) (by show ((m : Int)) < 46; omega) (by show ((m : Int)) < 11 ∨ 18 < ((m : Int)); omega), nxW_on ⟨m, rd, s1, s2, I⟩ pc (R s1) (R s2) (by show ¬ ((m : Int) = 3); omega) (by show ¬ ((m : Int) = 4); omega) (holds_none _ _ _ (by show ¬ ((m : Int) = 5); omega) (by show ¬ ((m : Int) = 6); omega) (by show ¬ ((m : Int) = 7); omega) (by show ¬ ((m : Int) = 8); omega) (by show ¬ ((m : Int) = 9); omega) (by show ¬ ((m : Int) = 10); omega)), rkW_reg ⟨m, rd, s1, s2, I⟩ pc (R s1) (R s2) (by show 5 ≤ (m : Int); omega) (by show ¬ (19 ≤ (m : Int) ∧ (m : Int) ≤ 27); omega)]; exact giveC_no _ _ _ h0
    have dd : Does n ((pc + 4) % 4294967296) 0 0 0 rd 0 0 0 0 0 0 := ⟨er, rfl, rfl, fl.lr, fun _ => rfl, .inl ⟨rfl, rfl⟩, .inl rfl, by omega, by omega, by omega, by omega, by first | exact hV.1 | omega, by first | exact hV.2 | omega⟩
    refine ⟨_, 0, 0, 0, rd, 0, 0, 0, 0, 0, 0, false, 0, (by first | exact hE | exact hE.trans (by rw [h0])), dd, fun w p c o => ?_⟩
    have d := DD w p c o
    have hbig := o.hT2.size
    have CC : ∀ W, Below w.heap.size w W → Calls Tryd.prog 33 #[hv R pc 0 0, .slice p n c] W fun e w' => e = .returned (cv pc ((pc + 4) % 4294967296) 0 0 0 (0) 0 0 0 false 0) ∧ Below W.heap.size W w' := fun W hW => by have h := hcommit_dec o d (by omega) (by omega) s1 s2 (by unfold ra; exact if_neg (by show ¬ ((m : Int) = 47); omega)) (by unfold rb; exact if_neg (by show ¬ ((m : Int) = 47); omega)) (by omega) (by omega) W hW; rw [hE] at h; exact h
    have QQ : ∀ W, Below w.heap.size w W → ∀ D, Hid (Did D (ccs pc ((pc + 4) % 4294967296) 0 0 0 (0) 0 0 0 false 0) ((hcs R pc 0 0).setIfInBounds 32 (.int .u32 ((pc + 4) % 4294967296))) p n c) → Calls Tryd.prog 18 #[hv R pc 0 0, .slice p n c] W fun e w' => e = .returned (.agg D) ∧ Below W.heap.size W w' := fun W hW D hD => qReg_0 (hcs R pc 0 0) pc p n c W X I (I % 4294967296) ((pc + 4) % 4294967296) ((R s1 + I % 4294967296) % 4294967296) (R s1) (R s2) (R rd) rd s1 s2 D m (alu m (R s1) (R s2)) (by omega) (by omega) rfl (hcs_ones _ _ _ _) rfl rfl rfl hA hB hRd d.l1 d.l2 d.lr d.i0 d.i1 hz (fun W' hW' => d.CLt W' (under hW hW')) d.CDt CO CN CT (fun W => rAlu_any m (R s1) (R s2) a0 a1 b0 b1 W) hD
    exact ⟨stepP o dd CC, stepQ o (by subst h0; rfl) QQ⟩
  · have hz : ((rd : Int) != 0) = true := by simp; omega
    have hE : allW n f ⟨m, rd, s1, s2, I⟩ pc (R s1) (R s2) = ⟨pc, ((pc + 4) % 4294967296), 0, 0, rd, (alu m (R s1) (R s2)), 0, 0, 0, false, 0⟩ := by rw [allW_rest n f ⟨m, rd, s1, s2, I⟩ pc (R s1) (R s2) (by show 1 ≤ ((m : Int)); omega) (by show ((m : Int)) < 46; omega) (by show ((m : Int)) < 11 ∨ 18 < ((m : Int)); omega), nxW_on ⟨m, rd, s1, s2, I⟩ pc (R s1) (R s2) (by show ¬ ((m : Int) = 3); omega) (by show ¬ ((m : Int) = 4); omega) (holds_none _ _ _ (by show ¬ ((m : Int) = 5); omega) (by show ¬ ((m : Int) = 6); omega) (by show ¬ ((m : Int) = 7); omega) (by show ¬ ((m : Int) = 8); omega) (by show ¬ ((m : Int) = 9); omega) (by show ¬ ((m : Int) = 10); omega)), rkW_reg ⟨m, rd, s1, s2, I⟩ pc (R s1) (R s2) (by show 5 ≤ (m : Int); omega) (by show ¬ (19 ≤ (m : Int) ∧ (m : Int) ≤ 27); omega)]; exact giveC_yes _ _ _ h0
    have dd : Does n ((pc + 4) % 4294967296) 0 0 rd rd (alu m (R s1) (R s2)) 0 0 0 0 0 := ⟨rfl, rfl, rfl, fl.lr, fun h => absurd h h0, .inl ⟨rfl, rfl⟩, .inl rfl, by omega, by omega, by omega, by omega, by first | exact hV.1 | omega, by first | exact hV.2 | omega⟩
    refine ⟨_, 0, 0, rd, rd, _, 0, 0, 0, 0, 0, false, 0, (by first | exact hE | exact hE.trans (by rw [h0])), dd, fun w p c o => ?_⟩
    have d := DD w p c o
    have hbig := o.hT2.size
    have CC : ∀ W, Below w.heap.size w W → Calls Tryd.prog 33 #[hv R pc 0 0, .slice p n c] W fun e w' => e = .returned (cv pc ((pc + 4) % 4294967296) 0 0 rd (alu m (R s1) (R s2)) 0 0 0 false 0) ∧ Below W.heap.size W w' := fun W hW => by have h := hcommit_dec o d (by omega) (by omega) s1 s2 (by unfold ra; exact if_neg (by show ¬ ((m : Int) = 47); omega)) (by unfold rb; exact if_neg (by show ¬ ((m : Int) = 47); omega)) (by omega) (by omega) W hW; rw [hE] at h; exact h
    have QQ : ∀ W, Below w.heap.size w W → ∀ D, Hid (Did D (ccs pc ((pc + 4) % 4294967296) 0 0 rd (alu m (R s1) (R s2)) 0 0 0 false 0) (((hcs R pc 0 0).setIfInBounds rd (.int .u32 (alu m (R s1) (R s2)))).setIfInBounds 32 (.int .u32 ((pc + 4) % 4294967296))) p n c) → Calls Tryd.prog 18 #[hv R pc 0 0, .slice p n c] W fun e w' => e = .returned (.agg D) ∧ Below W.heap.size W w' := fun W hW D hD => qReg_1 (hcs R pc 0 0) pc p n c W X I (I % 4294967296) ((pc + 4) % 4294967296) ((R s1 + I % 4294967296) % 4294967296) (R s1) (R s2) (R rd) rd s1 s2 D m (alu m (R s1) (R s2)) (by omega) (by omega) rfl (hcs_ones _ _ _ _) rfl rfl rfl hA hB hRd d.l1 d.l2 d.lr d.i0 d.i1 hz (fun W' hW' => d.CLt W' (under hW hW')) d.CDt CO CN CT (fun W => rAlu_any m (R s1) (R s2) a0 a1 b0 b1 W) hD
    exact ⟨stepP o dd CC, stepQ o (by rw [setRd _ _ _ _ _ _ h0 d.lr]; rfl) QQ⟩

end Go.Proofs.YtpiohehijkpghaaDoor
namespace Go.Proofs.YtpiohehijkpghaaDoor
open Go.RowKit
open Hy
set_option linter.unusedVariables false

set_option maxRecDepth 20000 in
set_option maxHeartbeats 1000000 in
theorem gLoad11 {R : Nat → Int} {pc : Int} {n : Nat} {f : Nat → Int} {X I : Int} {rd s1 s2 : Nat} (z : Rng R pc n f) (fl : Fld rd s1 s2 I) (DD : ∀ w p c, Ok w R pc p n c f → Dec w R pc p n c f X 11 rd s1 s2 I) : All R pc n f (allW n f ⟨11, rd, s1, s2, I⟩ pc (R s1) (R s2)) := by
  have hA := hcs_reg R pc 0 0 s1 fl.l1
  have hB := hcs_reg R pc 0 0 s2 fl.l2
  have hRd := hcs_reg R pc 0 0 rd fl.lr
  obtain ⟨a0, a1⟩ := z.hR s1 fl.l1
  obtain ⟨b0, b1⟩ := z.hR s2 fl.l2
  have p0 := z.p0
  have p1 := z.p1
  have fi0 := fl.i0
  have fi1 := fl.i1
  have CO := fun W => rOf_any I W
  have CN := fun W => qsum_any pc 4 p0 p1 (by omega) (by omega) W
  have CT := fun W => qsum_any (R s1) (I % 4294967296) a0 a1 (by omega) (by omega) W
  have hl1 := fl.l1
  have hl2 := fl.l2
  have eTH : (R s1 + I % 4294967296) % 4294967296 = (R s1 + I) % 4294967296 := by omega
  have CT' : ∀ W, Calls Tryd.prog 39 #[.int .u32 (R s1), .int .u32 (I % 4294967296)] W fun e w' => e = .returned (.int .u32 ((R s1 + I) % 4294967296)) ∧ w' = W := fun W => by rw [← eTH]; exact CT W
  obtain ⟨q, hq⟩ := Int.eq_ofNat_of_zero_le (show 0 ≤ (R s1 + I) % 4294967296 by omega)
  have q1 : (q : Int) ≤ 4294967295 := by omega
  by_cases ho : 0 < ldn 11 ∧ (q : Int) % ldn 11 = 0 ∧ (q : Int) + ldn 11 ≤ n
  · obtain ⟨V, HV⟩ : ∃ V, V = ldv 11 (fun i => f (q + i)) := ⟨_, rfl⟩
    have hV : 0 ≤ V ∧ V ≤ 4294967295 := by rw [HV]; exact ldv_rng 11 f n q ho z.hf
    by_cases h0 : rd = 0
    · have hz : ((rd : Int) != 0) = false := by subst h0; rfl
      have er : (0 : Int) = (rd : Int) := by subst h0; rfl
      have hE : allW n f ⟨11, rd, s1, s2, I⟩ pc (R s1) (R s2) = ⟨pc, ((pc + 4) % 4294967296), 0, 0, 0, (0), 0, 0, 0, false, 0⟩ := by rw [allW_load n f ⟨11, rd, s1, s2, I⟩ pc (R s1) (R s2) (by show 0 < ldn 11; decide), loadC_yes n f 11 rd s1 s2 I pc (R s1) q hq ho, ← HV]; exact onC_no _ _ h0
      have dd : Does n ((pc + 4) % 4294967296) 0 0 0 rd 0 0 0 0 0 0 := ⟨er, rfl, rfl, fl.lr, fun _ => rfl, .inl ⟨rfl, rfl⟩, .inl rfl, by omega, by omega, by omega, by omega, by first | exact hV.1 | omega, by first | exact hV.2 | omega⟩
      refine ⟨_, 0, 0, 0, rd, 0, 0, 0, 0, 0, 0, false, 0, (by first | exact hE | exact hE.trans (by rw [h0])), dd, fun w p c o => ?_⟩
      have d := DD w p c o
      have hbig := o.hT2.size
      obtain ⟨cm, ct⟩ := memLoad_yes o 11 q q1 ho
      rw [← hq, ← HV] at cm ct
      have CC : ∀ W, Below w.heap.size w W → Calls Tryd.prog 33 #[hv R pc 0 0, .slice p n c] W fun e w' => e = .returned (cv pc ((pc + 4) % 4294967296) 0 0 0 (0) 0 0 0 false 0) ∧ Below W.heap.size W w' := fun W hW => by have h := hcommit_dec o d (by omega) (by omega) s1 s2 (by unfold ra; exact if_neg (by show ¬ ((11 : Int) = 47); omega)) (by unfold rb; exact if_neg (by show ¬ ((11 : Int) = 47); omega)) (by omega) (by omega) W hW; rw [hE] at h; exact h
      have QQ : ∀ W, Below w.heap.size w W → ∀ D, Hid (Did D (ccs pc ((pc + 4) % 4294967296) 0 0 0 (0) 0 0 0 false 0) ((hcs R pc 0 0).setIfInBounds 32 (.int .u32 ((pc + 4) % 4294967296))) p n c) → Calls Tryd.prog 18 #[hv R pc 0 0, .slice p n c] W fun e w' => e = .returned (.agg D) ∧ Below W.heap.size W w' := fun W hW D hD => qLoad_0 (hcs R pc 0 0) pc p n c W X I (I % 4294967296) ((pc + 4) % 4294967296) ((R s1 + I) % 4294967296) (R s1) (R s2) (R rd) rd s1 s2 D 11 V (by omega) (by omega) rfl (hcs_ones _ _ _ _) rfl rfl rfl hA hB hRd d.l1 d.l2 d.lr d.i0 d.i1 hz (fun W' hW' => d.CLt W' (under hW hW')) d.CDt CO CN CT' (fun W' hW' => ct W' (under hW hW')) hD
      exact ⟨stepP o dd CC, stepQ o (by subst h0; rfl) QQ⟩
    · have hz : ((rd : Int) != 0) = true := by simp; omega
      have hE : allW n f ⟨11, rd, s1, s2, I⟩ pc (R s1) (R s2) = ⟨pc, ((pc + 4) % 4294967296), 0, 0, rd, (V), 0, 0, 0, false, 0⟩ := by rw [allW_load n f ⟨11, rd, s1, s2, I⟩ pc (R s1) (R s2) (by show 0 < ldn 11; decide), loadC_yes n f 11 rd s1 s2 I pc (R s1) q hq ho, ← HV]; exact onC_yes _ _ h0
      have dd : Does n ((pc + 4) % 4294967296) 0 0 rd rd V 0 0 0 0 0 := ⟨rfl, rfl, rfl, fl.lr, fun h => absurd h h0, .inl ⟨rfl, rfl⟩, .inl rfl, by omega, by omega, by omega, by omega, by first | exact hV.1 | omega, by first | exact hV.2 | omega⟩
      refine ⟨_, 0, 0, rd, rd, _, 0, 0, 0, 0, 0, false, 0, (by first | exact hE | exact hE.trans (by rw [h0])), dd, fun w p c o => ?_⟩
      have d := DD w p c o
      have hbig := o.hT2.size
      obtain ⟨cm, ct⟩ := memLoad_yes o 11 q q1 ho
      rw [← hq, ← HV] at cm ct
      have CC : ∀ W, Below w.heap.size w W → Calls Tryd.prog 33 #[hv R pc 0 0, .slice p n c] W fun e w' => e = .returned (cv pc ((pc + 4) % 4294967296) 0 0 rd (V) 0 0 0 false 0) ∧ Below W.heap.size W w' := fun W hW => by have h := hcommit_dec o d (by omega) (by omega) s1 s2 (by unfold ra; exact if_neg (by show ¬ ((11 : Int) = 47); omega)) (by unfold rb; exact if_neg (by show ¬ ((11 : Int) = 47); omega)) (by omega) (by omega) W hW; rw [hE] at h; exact h
      have QQ : ∀ W, Below w.heap.size w W → ∀ D, Hid (Did D (ccs pc ((pc + 4) % 4294967296) 0 0 rd (V) 0 0 0 false 0) (((hcs R pc 0 0).setIfInBounds rd (.int .u32 V)).setIfInBounds 32 (.int .u32 ((pc + 4) % 4294967296))) p n c) → Calls Tryd.prog 18 #[hv R pc 0 0, .slice p n c] W fun e w' => e = .returned (.agg D) ∧ Below W.heap.size W w' := fun W hW D hD => qLoad_1 (hcs R pc 0 0) pc p n c W X I (I % 4294967296) ((pc + 4) % 4294967296) ((R s1 + I) % 4294967296) (R s1) (R s2) (R rd) rd s1 s2 D 11 V (by omega) (by omega) rfl (hcs_ones _ _ _ _) rfl rfl rfl hA hB hRd d.l1 d.l2 d.lr d.i0 d.i1 hz (fun W' hW' => d.CLt W' (under hW hW')) d.CDt CO CN CT' (fun W' hW' => ct W' (under hW hW')) hD
      exact ⟨stepP o dd CC, stepQ o (by rw [setRd _ _ _ _ _ _ h0 d.lr]; rfl) QQ⟩
  · have hE : allW n f ⟨11, rd, s1, s2, I⟩ pc (R s1) (R s2) = ⟨pc, pc, 2, 3, 0, 0, 0, 0, 0, false, 0⟩ := by rw [allW_load n f ⟨11, rd, s1, s2, I⟩ pc (R s1) (R s2) (by show 0 < ldn 11; decide)]; exact loadC_no n f 11 rd s1 s2 I pc (R s1) q hq (by decide) ho
    have dd : Does n pc 2 3 0 0 0 0 0 0 0 0 := ⟨rfl, rfl, rfl, by omega, fun _ => rfl, .inr (.inr ⟨rfl, by omega, by omega⟩), .inl rfl, by omega, by omega, by omega, by omega, by first | exact hV.1 | omega, by first | exact hV.2 | omega⟩
    refine ⟨_, 2, _, 0, 0, 0, 0, 0, 0, 0, 0, false, 0, (by first | exact hE | exact hE.trans (by rw [h0])), dd, fun w p c o => ?_⟩
    have d := DD w p c o
    have hbig := o.hT2.size
    obtain ⟨cm, ct⟩ := memLoad_no o 11 q q1 ho
    rw [← hq] at cm ct
    have CC : ∀ W, Below w.heap.size w W → Calls Tryd.prog 33 #[hv R pc 0 0, .slice p n c] W fun e w' => e = .returned (cv pc pc 2 3 0 0 0 0 0 false 0) ∧ Below W.heap.size W w' := fun W hW => by have h := hcommit_dec o d (by omega) (by omega) s1 s2 (by unfold ra; exact if_neg (by show ¬ ((11 : Int) = 47); omega)) (by unfold rb; exact if_neg (by show ¬ ((11 : Int) = 47); omega)) (by omega) (by omega) W hW; rw [hE] at h; exact h
    have QQ : ∀ W, Below w.heap.size w W → ∀ D, Hid (Did D (ccs pc pc 2 3 0 0 0 0 0 false 0) (((hcs R pc 0 0).setIfInBounds 33 (.int .i64 2)).setIfInBounds 34 (.int .i64 3)) p n c) → Calls Tryd.prog 18 #[hv R pc 0 0, .slice p n c] W fun e w' => e = .returned (.agg D) ∧ Below W.heap.size W w' := fun W hW D hD => qLoadX (hcs R pc 0 0) pc p n c W X I (I % 4294967296) ((pc + 4) % 4294967296) ((R s1 + I) % 4294967296) (R s1) (R s2) (R rd) rd s1 s2 D 11 0 (by omega) (by omega) rfl (hcs_ones _ _ _ _) rfl rfl rfl hA hB hRd d.l1 d.l2 d.lr d.i0 d.i1 (fun W' hW' => d.CLt W' (under hW hW')) d.CDt CO CN CT' (fun W' hW' => ct W' (under hW hW')) (fun W' => qtrap_any (hcs R pc 0 0) pc 3 p n c W' rfl (hcs_ones _ _ _ _) rfl ⟨_, rfl⟩ ⟨_, rfl⟩ D hD) hD
    exact ⟨stepP o dd CC, stepQ o rfl QQ⟩

set_option maxRecDepth 20000 in
set_option maxHeartbeats 1000000 in
theorem gLoad12 {R : Nat → Int} {pc : Int} {n : Nat} {f : Nat → Int} {X I : Int} {rd s1 s2 : Nat} (z : Rng R pc n f) (fl : Fld rd s1 s2 I) (DD : ∀ w p c, Ok w R pc p n c f → Dec w R pc p n c f X 12 rd s1 s2 I) : All R pc n f (allW n f ⟨12, rd, s1, s2, I⟩ pc (R s1) (R s2)) := by
  have hA := hcs_reg R pc 0 0 s1 fl.l1
  have hB := hcs_reg R pc 0 0 s2 fl.l2
  have hRd := hcs_reg R pc 0 0 rd fl.lr
  obtain ⟨a0, a1⟩ := z.hR s1 fl.l1
  obtain ⟨b0, b1⟩ := z.hR s2 fl.l2
  have p0 := z.p0
  have p1 := z.p1
  have fi0 := fl.i0
  have fi1 := fl.i1
  have CO := fun W => rOf_any I W
  have CN := fun W => qsum_any pc 4 p0 p1 (by omega) (by omega) W
  have CT := fun W => qsum_any (R s1) (I % 4294967296) a0 a1 (by omega) (by omega) W
  have hl1 := fl.l1
  have hl2 := fl.l2
  have eTH : (R s1 + I % 4294967296) % 4294967296 = (R s1 + I) % 4294967296 := by omega
  have CT' : ∀ W, Calls Tryd.prog 39 #[.int .u32 (R s1), .int .u32 (I % 4294967296)] W fun e w' => e = .returned (.int .u32 ((R s1 + I) % 4294967296)) ∧ w' = W := fun W => by rw [← eTH]; exact CT W
  obtain ⟨q, hq⟩ := Int.eq_ofNat_of_zero_le (show 0 ≤ (R s1 + I) % 4294967296 by omega)
  have q1 : (q : Int) ≤ 4294967295 := by omega
  by_cases ho : 0 < ldn 12 ∧ (q : Int) % ldn 12 = 0 ∧ (q : Int) + ldn 12 ≤ n
  · obtain ⟨V, HV⟩ : ∃ V, V = ldv 12 (fun i => f (q + i)) := ⟨_, rfl⟩
    have hV : 0 ≤ V ∧ V ≤ 4294967295 := by rw [HV]; exact ldv_rng 12 f n q ho z.hf
    by_cases h0 : rd = 0
    · have hz : ((rd : Int) != 0) = false := by subst h0; rfl
      have er : (0 : Int) = (rd : Int) := by subst h0; rfl
      have hE : allW n f ⟨12, rd, s1, s2, I⟩ pc (R s1) (R s2) = ⟨pc, ((pc + 4) % 4294967296), 0, 0, 0, (0), 0, 0, 0, false, 0⟩ := by rw [allW_load n f ⟨12, rd, s1, s2, I⟩ pc (R s1) (R s2) (by show 0 < ldn 12; decide), loadC_yes n f 12 rd s1 s2 I pc (R s1) q hq ho, ← HV]; exact onC_no _ _ h0
      have dd : Does n ((pc + 4) % 4294967296) 0 0 0 rd 0 0 0 0 0 0 := ⟨er, rfl, rfl, fl.lr, fun _ => rfl, .inl ⟨rfl, rfl⟩, .inl rfl, by omega, by omega, by omega, by omega, by first | exact hV.1 | omega, by first | exact hV.2 | omega⟩
      refine ⟨_, 0, 0, 0, rd, 0, 0, 0, 0, 0, 0, false, 0, (by first | exact hE | exact hE.trans (by rw [h0])), dd, fun w p c o => ?_⟩
      have d := DD w p c o
      have hbig := o.hT2.size
      obtain ⟨cm, ct⟩ := memLoad_yes o 12 q q1 ho
      rw [← hq, ← HV] at cm ct
      have CC : ∀ W, Below w.heap.size w W → Calls Tryd.prog 33 #[hv R pc 0 0, .slice p n c] W fun e w' => e = .returned (cv pc ((pc + 4) % 4294967296) 0 0 0 (0) 0 0 0 false 0) ∧ Below W.heap.size W w' := fun W hW => by have h := hcommit_dec o d (by omega) (by omega) s1 s2 (by unfold ra; exact if_neg (by show ¬ ((12 : Int) = 47); omega)) (by unfold rb; exact if_neg (by show ¬ ((12 : Int) = 47); omega)) (by omega) (by omega) W hW; rw [hE] at h; exact h
      have QQ : ∀ W, Below w.heap.size w W → ∀ D, Hid (Did D (ccs pc ((pc + 4) % 4294967296) 0 0 0 (0) 0 0 0 false 0) ((hcs R pc 0 0).setIfInBounds 32 (.int .u32 ((pc + 4) % 4294967296))) p n c) → Calls Tryd.prog 18 #[hv R pc 0 0, .slice p n c] W fun e w' => e = .returned (.agg D) ∧ Below W.heap.size W w' := fun W hW D hD => qLoad_0 (hcs R pc 0 0) pc p n c W X I (I % 4294967296) ((pc + 4) % 4294967296) ((R s1 + I) % 4294967296) (R s1) (R s2) (R rd) rd s1 s2 D 12 V (by omega) (by omega) rfl (hcs_ones _ _ _ _) rfl rfl rfl hA hB hRd d.l1 d.l2 d.lr d.i0 d.i1 hz (fun W' hW' => d.CLt W' (under hW hW')) d.CDt CO CN CT' (fun W' hW' => ct W' (under hW hW')) hD
      exact ⟨stepP o dd CC, stepQ o (by subst h0; rfl) QQ⟩
    · have hz : ((rd : Int) != 0) = true := by simp; omega
      have hE : allW n f ⟨12, rd, s1, s2, I⟩ pc (R s1) (R s2) = ⟨pc, ((pc + 4) % 4294967296), 0, 0, rd, (V), 0, 0, 0, false, 0⟩ := by rw [allW_load n f ⟨12, rd, s1, s2, I⟩ pc (R s1) (R s2) (by show 0 < ldn 12; decide), loadC_yes n f 12 rd s1 s2 I pc (R s1) q hq ho, ← HV]; exact onC_yes _ _ h0
      have dd : Does n ((pc + 4) % 4294967296) 0 0 rd rd V 0 0 0 0 0 := ⟨rfl, rfl, rfl, fl.lr, fun h => absurd h h0, .inl ⟨rfl, rfl⟩, .inl rfl, by omega, by omega, by omega, by omega, by first | exact hV.1 | omega, by first | exact hV.2 | omega⟩
      refine ⟨_, 0, 0, rd, rd, _, 0, 0, 0, 0, 0, false, 0, (by first | exact hE | exact hE.trans (by rw [h0])), dd, fun w p c o => ?_⟩
      have d := DD w p c o
      have hbig := o.hT2.size
      obtain ⟨cm, ct⟩ := memLoad_yes o 12 q q1 ho
      rw [← hq, ← HV] at cm ct
      have CC : ∀ W, Below w.heap.size w W → Calls Tryd.prog 33 #[hv R pc 0 0, .slice p n c] W fun e w' => e = .returned (cv pc ((pc + 4) % 4294967296) 0 0 rd (V) 0 0 0 false 0) ∧ Below W.heap.size W w' := fun W hW => by have h := hcommit_dec o d (by omega) (by omega) s1 s2 (by unfold ra; exact if_neg (by show ¬ ((12 : Int) = 47); omega)) (by unfold rb; exact if_neg (by show ¬ ((12 : Int) = 47); omega)) (by omega) (by omega) W hW; rw [hE] at h; exact h
      have QQ : ∀ W, Below w.heap.size w W → ∀ D, Hid (Did D (ccs pc ((pc + 4) % 4294967296) 0 0 rd (V) 0 0 0 false 0) (((hcs R pc 0 0).setIfInBounds rd (.int .u32 V)).setIfInBounds 32 (.int .u32 ((pc + 4) % 4294967296))) p n c) → Calls Tryd.prog 18 #[hv R pc 0 0, .slice p n c] W fun e w' => e = .returned (.agg D) ∧ Below W.heap.size W w' := fun W hW D hD => qLoad_1 (hcs R pc 0 0) pc p n c W X I (I % 4294967296) ((pc + 4) % 4294967296) ((R s1 + I) % 4294967296) (R s1) (R s2) (R rd) rd s1 s2 D 12 V (by omega) (by omega) rfl (hcs_ones _ _ _ _) rfl rfl rfl hA hB hRd d.l1 d.l2 d.lr d.i0 d.i1 hz (fun W' hW' => d.CLt W' (under hW hW')) d.CDt CO CN CT' (fun W' hW' => ct W' (under hW hW')) hD
      exact ⟨stepP o dd CC, stepQ o (by rw [setRd _ _ _ _ _ _ h0 d.lr]; rfl) QQ⟩
  · have hE : allW n f ⟨12, rd, s1, s2, I⟩ pc (R s1) (R s2) = ⟨pc, pc, 2, 3, 0, 0, 0, 0, 0, false, 0⟩ := by rw [allW_load n f ⟨12, rd, s1, s2, I⟩ pc (R s1) (R s2) (by show 0 < ldn 12; decide)]; exact loadC_no n f 12 rd s1 s2 I pc (R s1) q hq (by decide) ho
    have dd : Does n pc 2 3 0 0 0 0 0 0 0 0 := ⟨rfl, rfl, rfl, by omega, fun _ => rfl, .inr (.inr ⟨rfl, by omega, by omega⟩), .inl rfl, by omega, by omega, by omega, by omega, by first | exact hV.1 | omega, by first | exact hV.2 | omega⟩
    refine ⟨_, 2, _, 0, 0, 0, 0, 0, 0, 0, 0, false, 0, (by first | exact hE | exact hE.trans (by rw [h0])), dd, fun w p c o => ?_⟩
    have d := DD w p c o
    have hbig := o.hT2.size
    obtain ⟨cm, ct⟩ := memLoad_no o 12 q q1 ho
    rw [← hq] at cm ct
    have CC : ∀ W, Below w.heap.size w W → Calls Tryd.prog 33 #[hv R pc 0 0, .slice p n c] W fun e w' => e = .returned (cv pc pc 2 3 0 0 0 0 0 false 0) ∧ Below W.heap.size W w' := fun W hW => by have h := hcommit_dec o d (by omega) (by omega) s1 s2 (by unfold ra; exact if_neg (by show ¬ ((12 : Int) = 47); omega)) (by unfold rb; exact if_neg (by show ¬ ((12 : Int) = 47); omega)) (by omega) (by omega) W hW; rw [hE] at h; exact h
    have QQ : ∀ W, Below w.heap.size w W → ∀ D, Hid (Did D (ccs pc pc 2 3 0 0 0 0 0 false 0) (((hcs R pc 0 0).setIfInBounds 33 (.int .i64 2)).setIfInBounds 34 (.int .i64 3)) p n c) → Calls Tryd.prog 18 #[hv R pc 0 0, .slice p n c] W fun e w' => e = .returned (.agg D) ∧ Below W.heap.size W w' := fun W hW D hD => qLoadX (hcs R pc 0 0) pc p n c W X I (I % 4294967296) ((pc + 4) % 4294967296) ((R s1 + I) % 4294967296) (R s1) (R s2) (R rd) rd s1 s2 D 12 0 (by omega) (by omega) rfl (hcs_ones _ _ _ _) rfl rfl rfl hA hB hRd d.l1 d.l2 d.lr d.i0 d.i1 (fun W' hW' => d.CLt W' (under hW hW')) d.CDt CO CN CT' (fun W' hW' => ct W' (under hW hW')) (fun W' => qtrap_any (hcs R pc 0 0) pc 3 p n c W' rfl (hcs_ones _ _ _ _) rfl ⟨_, rfl⟩ ⟨_, rfl⟩ D hD) hD
    exact ⟨stepP o dd CC, stepQ o rfl QQ⟩

set_option maxRecDepth 20000 in
set_option maxHeartbeats 1000000 in
theorem gLoad13 {R : Nat → Int} {pc : Int} {n : Nat} {f : Nat → Int} {X I : Int} {rd s1 s2 : Nat} (z : Rng R pc n f) (fl : Fld rd s1 s2 I) (DD : ∀ w p c, Ok w R pc p n c f → Dec w R pc p n c f X 13 rd s1 s2 I) : All R pc n f (allW n f ⟨13, rd, s1, s2, I⟩ pc (R s1) (R s2)) := by
  have hA := hcs_reg R pc 0 0 s1 fl.l1
  have hB := hcs_reg R pc 0 0 s2 fl.l2
  have hRd := hcs_reg R pc 0 0 rd fl.lr
  obtain ⟨a0, a1⟩ := z.hR s1 fl.l1
  obtain ⟨b0, b1⟩ := z.hR s2 fl.l2
  have p0 := z.p0
  have p1 := z.p1
  have fi0 := fl.i0
  have fi1 := fl.i1
  have CO := fun W => rOf_any I W
  have CN := fun W => qsum_any pc 4 p0 p1 (by omega) (by omega) W
  have CT := fun W => qsum_any (R s1) (I % 4294967296) a0 a1 (by omega) (by omega) W
  have hl1 := fl.l1
  have hl2 := fl.l2
  have eTH : (R s1 + I % 4294967296) % 4294967296 = (R s1 + I) % 4294967296 := by omega
  have CT' : ∀ W, Calls Tryd.prog 39 #[.int .u32 (R s1), .int .u32 (I % 4294967296)] W fun e w' => e = .returned (.int .u32 ((R s1 + I) % 4294967296)) ∧ w' = W := fun W => by rw [← eTH]; exact CT W
  obtain ⟨q, hq⟩ := Int.eq_ofNat_of_zero_le (show 0 ≤ (R s1 + I) % 4294967296 by omega)
  have q1 : (q : Int) ≤ 4294967295 := by omega
  by_cases ho : 0 < ldn 13 ∧ (q : Int) % ldn 13 = 0 ∧ (q : Int) + ldn 13 ≤ n
  · obtain ⟨V, HV⟩ : ∃ V, V = ldv 13 (fun i => f (q + i)) := ⟨_, rfl⟩
    have hV : 0 ≤ V ∧ V ≤ 4294967295 := by rw [HV]; exact ldv_rng 13 f n q ho z.hf
    by_cases h0 : rd = 0
    · have hz : ((rd : Int) != 0) = false := by subst h0; rfl
      have er : (0 : Int) = (rd : Int) := by subst h0; rfl
      have hE : allW n f ⟨13, rd, s1, s2, I⟩ pc (R s1) (R s2) = ⟨pc, ((pc + 4) % 4294967296), 0, 0, 0, (0), 0, 0, 0, false, 0⟩ := by rw [allW_load n f ⟨13, rd, s1, s2, I⟩ pc (R s1) (R s2) (by show 0 < ldn 13; decide), loadC_yes n f 13 rd s1 s2 I pc (R s1) q hq ho, ← HV]; exact onC_no _ _ h0
      have dd : Does n ((pc + 4) % 4294967296) 0 0 0 rd 0 0 0 0 0 0 := ⟨er, rfl, rfl, fl.lr, fun _ => rfl, .inl ⟨rfl, rfl⟩, .inl rfl, by omega, by omega, by omega, by omega, by first | exact hV.1 | omega, by first | exact hV.2 | omega⟩
      refine ⟨_, 0, 0, 0, rd, 0, 0, 0, 0, 0, 0, false, 0, (by first | exact hE | exact hE.trans (by rw [h0])), dd, fun w p c o => ?_⟩
      have d := DD w p c o
      have hbig := o.hT2.size
      obtain ⟨cm, ct⟩ := memLoad_yes o 13 q q1 ho
      rw [← hq, ← HV] at cm ct
      have CC : ∀ W, Below w.heap.size w W → Calls Tryd.prog 33 #[hv R pc 0 0, .slice p n c] W fun e w' => e = .returned (cv pc ((pc + 4) % 4294967296) 0 0 0 (0) 0 0 0 false 0) ∧ Below W.heap.size W w' := fun W hW => by have h := hcommit_dec o d (by omega) (by omega) s1 s2 (by unfold ra; exact if_neg (by show ¬ ((13 : Int) = 47); omega)) (by unfold rb; exact if_neg (by show ¬ ((13 : Int) = 47); omega)) (by omega) (by omega) W hW; rw [hE] at h; exact h
      have QQ : ∀ W, Below w.heap.size w W → ∀ D, Hid (Did D (ccs pc ((pc + 4) % 4294967296) 0 0 0 (0) 0 0 0 false 0) ((hcs R pc 0 0).setIfInBounds 32 (.int .u32 ((pc + 4) % 4294967296))) p n c) → Calls Tryd.prog 18 #[hv R pc 0 0, .slice p n c] W fun e w' => e = .returned (.agg D) ∧ Below W.heap.size W w' := fun W hW D hD => qLoad_0 (hcs R pc 0 0) pc p n c W X I (I % 4294967296) ((pc + 4) % 4294967296) ((R s1 + I) % 4294967296) (R s1) (R s2) (R rd) rd s1 s2 D 13 V (by omega) (by omega) rfl (hcs_ones _ _ _ _) rfl rfl rfl hA hB hRd d.l1 d.l2 d.lr d.i0 d.i1 hz (fun W' hW' => d.CLt W' (under hW hW')) d.CDt CO CN CT' (fun W' hW' => ct W' (under hW hW')) hD
      exact ⟨stepP o dd CC, stepQ o (by subst h0; rfl) QQ⟩
    · have hz : ((rd : Int) != 0) = true := by simp; omega
      have hE : allW n f ⟨13, rd, s1, s2, I⟩ pc (R s1) (R s2) = ⟨pc, ((pc + 4) % 4294967296), 0, 0, rd, (V), 0, 0, 0, false, 0⟩ := by rw [allW_load n f ⟨13, rd, s1, s2, I⟩ pc (R s1) (R s2) (by show 0 < ldn 13; decide), loadC_yes n f 13 rd s1 s2 I pc (R s1) q hq ho, ← HV]; exact onC_yes _ _ h0
      have dd : Does n ((pc + 4) % 4294967296) 0 0 rd rd V 0 0 0 0 0 := ⟨rfl, rfl, rfl, fl.lr, fun h => absurd h h0, .inl ⟨rfl, rfl⟩, .inl rfl, by omega, by omega, by omega, by omega, by first | exact hV.1 | omega, by first | exact hV.2 | omega⟩
      refine ⟨_, 0, 0, rd, rd, _, 0, 0, 0, 0, 0, false, 0, (by first | exact hE | exact hE.trans (by rw [h0])), dd, fun w p c o => ?_⟩
      have d := DD w p c o
      have hbig := o.hT2.size
      obtain ⟨cm, ct⟩ := memLoad_yes o 13 q q1 ho
      rw [← hq, ← HV] at cm ct
      have CC : ∀ W, Below w.heap.size w W → Calls Tryd.prog 33 #[hv R pc 0 0, .slice p n c] W fun e w' => e = .returned (cv pc ((pc + 4) % 4294967296) 0 0 rd (V) 0 0 0 false 0) ∧ Below W.heap.size W w' := fun W hW => by have h := hcommit_dec o d (by omega) (by omega) s1 s2 (by unfold ra; exact if_neg (by show ¬ ((13 : Int) = 47); omega)) (by unfold rb; exact if_neg (by show ¬ ((13 : Int) = 47); omega)) (by omega) (by omega) W hW; rw [hE] at h; exact h
      have QQ : ∀ W, Below w.heap.size w W → ∀ D, Hid (Did D (ccs pc ((pc + 4) % 4294967296) 0 0 rd (V) 0 0 0 false 0) (((hcs R pc 0 0).setIfInBounds rd (.int .u32 V)).setIfInBounds 32 (.int .u32 ((pc + 4) % 4294967296))) p n c) → Calls Tryd.prog 18 #[hv R pc 0 0, .slice p n c] W fun e w' => e = .returned (.agg D) ∧ Below W.heap.size W w' := fun W hW D hD => qLoad_1 (hcs R pc 0 0) pc p n c W X I (I % 4294967296) ((pc + 4) % 4294967296) ((R s1 + I) % 4294967296) (R s1) (R s2) (R rd) rd s1 s2 D 13 V (by omega) (by omega) rfl (hcs_ones _ _ _ _) rfl rfl rfl hA hB hRd d.l1 d.l2 d.lr d.i0 d.i1 hz (fun W' hW' => d.CLt W' (under hW hW')) d.CDt CO CN CT' (fun W' hW' => ct W' (under hW hW')) hD
      exact ⟨stepP o dd CC, stepQ o (by rw [setRd _ _ _ _ _ _ h0 d.lr]; rfl) QQ⟩
  · have hE : allW n f ⟨13, rd, s1, s2, I⟩ pc (R s1) (R s2) = ⟨pc, pc, 2, 3, 0, 0, 0, 0, 0, false, 0⟩ := by rw [allW_load n f ⟨13, rd, s1, s2, I⟩ pc (R s1) (R s2) (by show 0 < ldn 13; decide)]; exact loadC_no n f 13 rd s1 s2 I pc (R s1) q hq (by decide) ho
    have dd : Does n pc 2 3 0 0 0 0 0 0 0 0 := ⟨rfl, rfl, rfl, by omega, fun _ => rfl, .inr (.inr ⟨rfl, by omega, by omega⟩), .inl rfl, by omega, by omega, by omega, by omega, by first | exact hV.1 | omega, by first | exact hV.2 | omega⟩
    refine ⟨_, 2, _, 0, 0, 0, 0, 0, 0, 0, 0, false, 0, (by first | exact hE | exact hE.trans (by rw [h0])), dd, fun w p c o => ?_⟩
    have d := DD w p c o
    have hbig := o.hT2.size
    obtain ⟨cm, ct⟩ := memLoad_no o 13 q q1 ho
    rw [← hq] at cm ct
    have CC : ∀ W, Below w.heap.size w W → Calls Tryd.prog 33 #[hv R pc 0 0, .slice p n c] W fun e w' => e = .returned (cv pc pc 2 3 0 0 0 0 0 false 0) ∧ Below W.heap.size W w' := fun W hW => by have h := hcommit_dec o d (by omega) (by omega) s1 s2 (by unfold ra; exact if_neg (by show ¬ ((13 : Int) = 47); omega)) (by unfold rb; exact if_neg (by show ¬ ((13 : Int) = 47); omega)) (by omega) (by omega) W hW; rw [hE] at h; exact h
    have QQ : ∀ W, Below w.heap.size w W → ∀ D, Hid (Did D (ccs pc pc 2 3 0 0 0 0 0 false 0) (((hcs R pc 0 0).setIfInBounds 33 (.int .i64 2)).setIfInBounds 34 (.int .i64 3)) p n c) → Calls Tryd.prog 18 #[hv R pc 0 0, .slice p n c] W fun e w' => e = .returned (.agg D) ∧ Below W.heap.size W w' := fun W hW D hD => qLoadX (hcs R pc 0 0) pc p n c W X I (I % 4294967296) ((pc + 4) % 4294967296) ((R s1 + I) % 4294967296) (R s1) (R s2) (R rd) rd s1 s2 D 13 0 (by omega) (by omega) rfl (hcs_ones _ _ _ _) rfl rfl rfl hA hB hRd d.l1 d.l2 d.lr d.i0 d.i1 (fun W' hW' => d.CLt W' (under hW hW')) d.CDt CO CN CT' (fun W' hW' => ct W' (under hW hW')) (fun W' => qtrap_any (hcs R pc 0 0) pc 3 p n c W' rfl (hcs_ones _ _ _ _) rfl ⟨_, rfl⟩ ⟨_, rfl⟩ D hD) hD
    exact ⟨stepP o dd CC, stepQ o rfl QQ⟩

set_option maxRecDepth 20000 in
set_option maxHeartbeats 1000000 in
theorem gLoad14 {R : Nat → Int} {pc : Int} {n : Nat} {f : Nat → Int} {X I : Int} {rd s1 s2 : Nat} (z : Rng R pc n f) (fl : Fld rd s1 s2 I) (DD : ∀ w p c, Ok w R pc p n c f → Dec w R pc p n c f X 14 rd s1 s2 I) : All R pc n f (allW n f ⟨14, rd, s1, s2, I⟩ pc (R s1) (R s2)) := by
  have hA := hcs_reg R pc 0 0 s1 fl.l1
  have hB := hcs_reg R pc 0 0 s2 fl.l2
  have hRd := hcs_reg R pc 0 0 rd fl.lr
  obtain ⟨a0, a1⟩ := z.hR s1 fl.l1
  obtain ⟨b0, b1⟩ := z.hR s2 fl.l2
  have p0 := z.p0
  have p1 := z.p1
  have fi0 := fl.i0
  have fi1 := fl.i1
  have CO := fun W => rOf_any I W
  have CN := fun W => qsum_any pc 4 p0 p1 (by omega) (by omega) W
  have CT := fun W => qsum_any (R s1) (I % 4294967296) a0 a1 (by omega) (by omega) W
  have hl1 := fl.l1
  have hl2 := fl.l2
  have eTH : (R s1 + I % 4294967296) % 4294967296 = (R s1 + I) % 4294967296 := by omega
  have CT' : ∀ W, Calls Tryd.prog 39 #[.int .u32 (R s1), .int .u32 (I % 4294967296)] W fun e w' => e = .returned (.int .u32 ((R s1 + I) % 4294967296)) ∧ w' = W := fun W => by rw [← eTH]; exact CT W
  obtain ⟨q, hq⟩ := Int.eq_ofNat_of_zero_le (show 0 ≤ (R s1 + I) % 4294967296 by omega)
  have q1 : (q : Int) ≤ 4294967295 := by omega
  by_cases ho : 0 < ldn 14 ∧ (q : Int) % ldn 14 = 0 ∧ (q : Int) + ldn 14 ≤ n
  · obtain ⟨V, HV⟩ : ∃ V, V = ldv 14 (fun i => f (q + i)) := ⟨_, rfl⟩
    have hV : 0 ≤ V ∧ V ≤ 4294967295 := by rw [HV]; exact ldv_rng 14 f n q ho z.hf
    by_cases h0 : rd = 0
    · have hz : ((rd : Int) != 0) = false := by subst h0; rfl
      have er : (0 : Int) = (rd : Int) := by subst h0; rfl
      have hE : allW n f ⟨14, rd, s1, s2, I⟩ pc (R s1) (R s2) = ⟨pc, ((pc + 4) % 4294967296), 0, 0, 0, (0), 0, 0, 0, false, 0⟩ := by rw [allW_load n f ⟨14, rd, s1, s2, I⟩ pc (R s1) (R s2) (by show 0 < ldn 14; decide), loadC_yes n f 14 rd s1 s2 I pc (R s1) q hq ho, ← HV]; exact onC_no _ _ h0
      have dd : Does n ((pc + 4) % 4294967296) 0 0 0 rd 0 0 0 0 0 0 := ⟨er, rfl, rfl, fl.lr, fun _ => rfl, .inl ⟨rfl, rfl⟩, .inl rfl, by omega, by omega, by omega, by omega, by first | exact hV.1 | omega, by first | exact hV.2 | omega⟩
      refine ⟨_, 0, 0, 0, rd, 0, 0, 0, 0, 0, 0, false, 0, (by first | exact hE | exact hE.trans (by rw [h0])), dd, fun w p c o => ?_⟩
      have d := DD w p c o
      have hbig := o.hT2.size
      obtain ⟨cm, ct⟩ := memLoad_yes o 14 q q1 ho
      rw [← hq, ← HV] at cm ct
      have CC : ∀ W, Below w.heap.size w W → Calls Tryd.prog 33 #[hv R pc 0 0, .slice p n c] W fun e w' => e = .returned (cv pc ((pc + 4) % 4294967296) 0 0 0 (0) 0 0 0 false 0) ∧ Below W.heap.size W w' := fun W hW => by have h := hcommit_dec o d (by omega) (by omega) s1 s2 (by unfold ra; exact if_neg (by show ¬ ((14 : Int) = 47); omega)) (by unfold rb; exact if_neg (by show ¬ ((14 : Int) = 47); omega)) (by omega) (by omega) W hW; rw [hE] at h; exact h
      have QQ : ∀ W, Below w.heap.size w W → ∀ D, Hid (Did D (ccs pc ((pc + 4) % 4294967296) 0 0 0 (0) 0 0 0 false 0) ((hcs R pc 0 0).setIfInBounds 32 (.int .u32 ((pc + 4) % 4294967296))) p n c) → Calls Tryd.prog 18 #[hv R pc 0 0, .slice p n c] W fun e w' => e = .returned (.agg D) ∧ Below W.heap.size W w' := fun W hW D hD => qLoad_0 (hcs R pc 0 0) pc p n c W X I (I % 4294967296) ((pc + 4) % 4294967296) ((R s1 + I) % 4294967296) (R s1) (R s2) (R rd) rd s1 s2 D 14 V (by omega) (by omega) rfl (hcs_ones _ _ _ _) rfl rfl rfl hA hB hRd d.l1 d.l2 d.lr d.i0 d.i1 hz (fun W' hW' => d.CLt W' (under hW hW')) d.CDt CO CN CT' (fun W' hW' => ct W' (under hW hW')) hD
      exact ⟨stepP o dd CC, stepQ o (by subst h0; rfl) QQ⟩
    · have hz : ((rd : Int) != 0) = true := by simp; omega
      have hE : allW n f ⟨14, rd, s1, s2, I⟩ pc (R s1) (R s2) = ⟨pc, ((pc + 4) % 4294967296), 0, 0, rd, (V), 0, 0, 0, false, 0⟩ := by rw [allW_load n f ⟨14, rd, s1, s2, I⟩ pc (R s1) (R s2) (by show 0 < ldn 14; decide), loadC_yes n f 14 rd s1 s2 I pc (R s1) q hq ho, ← HV]; exact onC_yes _ _ h0
      have dd : Does n ((pc + 4) % 4294967296) 0 0 rd rd V 0 0 0 0 0 := ⟨rfl, rfl, rfl, fl.lr, fun h => absurd h h0, .inl ⟨rfl, rfl⟩, .inl rfl, by omega, by omega, by omega, by omega, by first | exact hV.1 | omega, by first | exact hV.2 | omega⟩
      refine ⟨_, 0, 0, rd, rd, _, 0, 0, 0, 0, 0, false, 0, (by first | exact hE | exact hE.trans (by rw [h0])), dd, fun w p c o => ?_⟩
      have d := DD w p c o
      have hbig := o.hT2.size
      obtain ⟨cm, ct⟩ := memLoad_yes o 14 q q1 ho
      rw [← hq, ← HV] at cm ct
      have CC : ∀ W, Below w.heap.size w W → Calls Tryd.prog 33 #[hv R pc 0 0, .slice p n c] W fun e w' => e = .returned (cv pc ((pc + 4) % 4294967296) 0 0 rd (V) 0 0 0 false 0) ∧ Below W.heap.size W w' := fun W hW => by have h := hcommit_dec o d (by omega) (by omega) s1 s2 (by unfold ra; exact if_neg (by show ¬ ((14 : Int) = 47); omega)) (by unfold rb; exact if_neg (by show ¬ ((14 : Int) = 47); omega)) (by omega) (by omega) W hW; rw [hE] at h; exact h
      have QQ : ∀ W, Below w.heap.size w W → ∀ D, Hid (Did D (ccs pc ((pc + 4) % 4294967296) 0 0 rd (V) 0 0 0 false 0) (((hcs R pc 0 0).setIfInBounds rd (.int .u32 V)).setIfInBounds 32 (.int .u32 ((pc + 4) % 4294967296))) p n c) → Calls Tryd.prog 18 #[hv R pc 0 0, .slice p n c] W fun e w' => e = .returned (.agg D) ∧ Below W.heap.size W w' := fun W hW D hD => qLoad_1 (hcs R pc 0 0) pc p n c W X I (I % 4294967296) ((pc + 4) % 4294967296) ((R s1 + I) % 4294967296) (R s1) (R s2) (R rd) rd s1 s2 D 14 V (by omega) (by omega) rfl (hcs_ones _ _ _ _) rfl rfl rfl hA hB hRd d.l1 d.l2 d.lr d.i0 d.i1 hz (fun W' hW' => d.CLt W' (under hW hW')) d.CDt CO CN CT' (fun W' hW' => ct W' (under hW hW')) hD
      exact ⟨stepP o dd CC, stepQ o (by rw [setRd _ _ _ _ _ _ h0 d.lr]; rfl) QQ⟩
  · have hE : allW n f ⟨14, rd, s1, s2, I⟩ pc (R s1) (R s2) = ⟨pc, pc, 2, 3, 0, 0, 0, 0, 0, false, 0⟩ := by rw [allW_load n f ⟨14, rd, s1, s2, I⟩ pc (R s1) (R s2) (by show 0 < ldn 14; decide)]; exact loadC_no n f 14 rd s1 s2 I pc (R s1) q hq (by decide) ho
    have dd : Does n pc 2 3 0 0 0 0 0 0 0 0 := ⟨rfl, rfl, rfl, by omega, fun _ => rfl, .inr (.inr ⟨rfl, by omega, by omega⟩), .inl rfl, by omega, by omega, by omega, by omega, by first | exact hV.1 | omega, by first | exact hV.2 | omega⟩
    refine ⟨_, 2, _, 0, 0, 0, 0, 0, 0, 0, 0, false, 0, (by first | exact hE | exact hE.trans (by rw [h0])), dd, fun w p c o => ?_⟩
    have d := DD w p c o
    have hbig := o.hT2.size
    obtain ⟨cm, ct⟩ := memLoad_no o 14 q q1 ho
    rw [← hq] at cm ct
    have CC : ∀ W, Below w.heap.size w W → Calls Tryd.prog 33 #[hv R pc 0 0, .slice p n c] W fun e w' => e = .returned (cv pc pc 2 3 0 0 0 0 0 false 0) ∧ Below W.heap.size W w' := fun W hW => by have h := hcommit_dec o d (by omega) (by omega) s1 s2 (by unfold ra; exact if_neg (by show ¬ ((14 : Int) = 47); omega)) (by unfold rb; exact if_neg (by show ¬ ((14 : Int) = 47); omega)) (by omega) (by omega) W hW; rw [hE] at h; exact h
    have QQ : ∀ W, Below w.heap.size w W → ∀ D, Hid (Did D (ccs pc pc 2 3 0 0 0 0 0 false 0) (((hcs R pc 0 0).setIfInBounds 33 (.int .i64 2)).setIfInBounds 34 (.int .i64 3)) p n c) → Calls Tryd.prog 18 #[hv R pc 0 0, .slice p n c] W fun e w' => e = .returned (.agg D) ∧ Below W.heap.size W w' := fun W hW D hD => qLoadX (hcs R pc 0 0) pc p n c W X I (I % 4294967296) ((pc + 4) % 4294967296) ((R s1 + I) % 4294967296) (R s1) (R s2) (R rd) rd s1 s2 D 14 0 (by omega) (by omega) rfl (hcs_ones _ _ _ _) rfl rfl rfl hA hB hRd d.l1 d.l2 d.lr d.i0 d.i1 (fun W' hW' => d.CLt W' (under hW hW')) d.CDt CO CN CT' (fun W' hW' => ct W' (under hW hW')) (fun W' => qtrap_any (hcs R pc 0 0) pc 3 p n c W' rfl (hcs_ones _ _ _ _) rfl ⟨_, rfl⟩ ⟨_, rfl⟩ D hD) hD
    exact ⟨stepP o dd CC, stepQ o rfl QQ⟩

set_option maxRecDepth 20000 in
set_option maxHeartbeats 1000000 in
theorem gLoad15 {R : Nat → Int} {pc : Int} {n : Nat} {f : Nat → Int} {X I : Int} {rd s1 s2 : Nat} (z : Rng R pc n f) (fl : Fld rd s1 s2 I) (DD : ∀ w p c, Ok w R pc p n c f → Dec w R pc p n c f X 15 rd s1 s2 I) : All R pc n f (allW n f ⟨15, rd, s1, s2, I⟩ pc (R s1) (R s2)) := by
  have hA := hcs_reg R pc 0 0 s1 fl.l1
  have hB := hcs_reg R pc 0 0 s2 fl.l2
  have hRd := hcs_reg R pc 0 0 rd fl.lr
  obtain ⟨a0, a1⟩ := z.hR s1 fl.l1
  obtain ⟨b0, b1⟩ := z.hR s2 fl.l2
  have p0 := z.p0
  have p1 := z.p1
  have fi0 := fl.i0
  have fi1 := fl.i1
  have CO := fun W => rOf_any I W
  have CN := fun W => qsum_any pc 4 p0 p1 (by omega) (by omega) W
  have CT := fun W => qsum_any (R s1) (I % 4294967296) a0 a1 (by omega) (by omega) W
  have hl1 := fl.l1
  have hl2 := fl.l2
  have eTH : (R s1 + I % 4294967296) % 4294967296 = (R s1 + I) % 4294967296 := by omega
  have CT' : ∀ W, Calls Tryd.prog 39 #[.int .u32 (R s1), .int .u32 (I % 4294967296)] W fun e w' => e = .returned (.int .u32 ((R s1 + I) % 4294967296)) ∧ w' = W := fun W => by rw [← eTH]; exact CT W
  obtain ⟨q, hq⟩ := Int.eq_ofNat_of_zero_le (show 0 ≤ (R s1 + I) % 4294967296 by omega)
  have q1 : (q : Int) ≤ 4294967295 := by omega
  by_cases ho : 0 < ldn 15 ∧ (q : Int) % ldn 15 = 0 ∧ (q : Int) + ldn 15 ≤ n
  · obtain ⟨V, HV⟩ : ∃ V, V = ldv 15 (fun i => f (q + i)) := ⟨_, rfl⟩
    have hV : 0 ≤ V ∧ V ≤ 4294967295 := by rw [HV]; exact ldv_rng 15 f n q ho z.hf
    by_cases h0 : rd = 0
    · have hz : ((rd : Int) != 0) = false := by subst h0; rfl
      have er : (0 : Int) = (rd : Int) := by subst h0; rfl
      have hE : allW n f ⟨15, rd, s1, s2, I⟩ pc (R s1) (R s2) = ⟨pc, ((pc + 4) % 4294967296), 0, 0, 0, (0), 0, 0, 0, false, 0⟩ := by rw [allW_load n f ⟨15, rd, s1, s2, I⟩ pc (R s1) (R s2) (by show 0 < ldn 15; decide), loadC_yes n f 15 rd s1 s2 I pc (R s1) q hq ho, ← HV]; exact onC_no _ _ h0
      have dd : Does n ((pc + 4) % 4294967296) 0 0 0 rd 0 0 0 0 0 0 := ⟨er, rfl, rfl, fl.lr, fun _ => rfl, .inl ⟨rfl, rfl⟩, .inl rfl, by omega, by omega, by omega, by omega, by first | exact hV.1 | omega, by first | exact hV.2 | omega⟩
      refine ⟨_, 0, 0, 0, rd, 0, 0, 0, 0, 0, 0, false, 0, (by first | exact hE | exact hE.trans (by rw [h0])), dd, fun w p c o => ?_⟩
      have d := DD w p c o
      have hbig := o.hT2.size
      obtain ⟨cm, ct⟩ := memLoad_yes o 15 q q1 ho
      rw [← hq, ← HV] at cm ct
      have CC : ∀ W, Below w.heap.size w W → Calls Tryd.prog 33 #[hv R pc 0 0, .slice p n c] W fun e w' => e = .returned (cv pc ((pc + 4) % 4294967296) 0 0 0 (0) 0 0 0 false 0) ∧ Below W.heap.size W w' := fun W hW => by have h := hcommit_dec o d (by omega) (by omega) s1 s2 (by unfold ra; exact if_neg (by show ¬ ((15 : Int) = 47); omega)) (by unfold rb; exact if_neg (by show ¬ ((15 : Int) = 47); omega)) (by omega) (by omega) W hW; rw [hE] at h; exact h
      have QQ : ∀ W, Below w.heap.size w W → ∀ D, Hid (Did D (ccs pc ((pc + 4) % 4294967296) 0 0 0 (0) 0 0 0 false 0) ((hcs R pc 0 0).setIfInBounds 32 (.int .u32 ((pc + 4) % 4294967296))) p n c) → Calls Tryd.prog 18 #[hv R pc 0 0, .slice p n c] W fun e w' => e = .returned (.agg D) ∧ Below W.heap.size W w' := fun W hW D hD => qLoad_0 (hcs R pc 0 0) pc p n c W X I (I % 4294967296) ((pc + 4) % 4294967296) ((R s1 + I) % 4294967296) (R s1) (R s2) (R rd) rd s1 s2 D 15 V (by omega) (by omega) rfl (hcs_ones _ _ _ _) rfl rfl rfl hA hB hRd d.l1 d.l2 d.lr d.i0 d.i1 hz (fun W' hW' => d.CLt W' (under hW hW')) d.CDt CO CN CT' (fun W' hW' => ct W' (under hW hW')) hD
      exact ⟨stepP o dd CC, stepQ o (by subst h0; rfl) QQ⟩
    · have hz : ((rd : Int) != 0) = true := by simp; omega
      have hE : allW n f ⟨15, rd, s1, s2, I⟩ pc (R s1) (R s2) = ⟨pc, ((pc + 4) % 4294967296), 0, 0, rd, (V), 0, 0, 0, false, 0⟩ := by rw [allW_load n f ⟨15, rd, s1, s2, I⟩ pc (R s1) (R s2) (by show 0 < ldn 15; decide), loadC_yes n f 15 rd s1 s2 I pc (R s1) q hq ho, ← HV]; exact onC_yes _ _ h0
      have dd : Does n ((pc + 4) % 4294967296) 0 0 rd rd V 0 0 0 0 0 := ⟨rfl, rfl, rfl, fl.lr, fun h => absurd h h0, .inl ⟨rfl, rfl⟩, .inl rfl, by omega, by omega, by omega, by omega, by first | exact hV.1 | omega, by first | exact hV.2 | omega⟩
      refine ⟨_, 0, 0, rd, rd, _, 0, 0, 0, 0, 0, false, 0, (by first | exact hE | exact hE.trans (by rw [h0])), dd, fun w p c o => ?_⟩
      have d := DD w p c o
      have hbig := o.hT2.size
      obtain ⟨cm, ct⟩ := memLoad_yes o 15 q q1 ho
      rw [← hq, ← HV] at cm ct
      have CC : ∀ W, Below w.heap.size w W → Calls Tryd.prog 33 #[hv R pc 0 0, .slice p n c] W fun e w' => e = .returned (cv pc ((pc + 4) % 4294967296) 0 0 rd (V) 0 0 0 false 0) ∧ Below W.heap.size W w' := fun W hW => by have h := hcommit_dec o d (by omega) (by omega) s1 s2 (by unfold ra; exact if_neg (by show ¬ ((15 : Int) = 47); omega)) (by unfold rb; exact if_neg (by show ¬ ((15 : Int) = 47); omega)) (by omega) (by omega) W hW; rw [hE] at h; exact h
      have QQ : ∀ W, Below w.heap.size w W → ∀ D, Hid (Did D (ccs pc ((pc + 4) % 4294967296) 0 0 rd (V) 0 0 0 false 0) (((hcs R pc 0 0).setIfInBounds rd (.int .u32 V)).setIfInBounds 32 (.int .u32 ((pc + 4) % 4294967296))) p n c) → Calls Tryd.prog 18 #[hv R pc 0 0, .slice p n c] W fun e w' => e = .returned (.agg D) ∧ Below W.heap.size W w' := fun W hW D hD => qLoad_1 (hcs R pc 0 0) pc p n c W X I (I % 4294967296) ((pc + 4) % 4294967296) ((R s1 + I) % 4294967296) (R s1) (R s2) (R rd) rd s1 s2 D 15 V (by omega) (by omega) rfl (hcs_ones _ _ _ _) rfl rfl rfl hA hB hRd d.l1 d.l2 d.lr d.i0 d.i1 hz (fun W' hW' => d.CLt W' (under hW hW')) d.CDt CO CN CT' (fun W' hW' => ct W' (under hW hW')) hD
      exact ⟨stepP o dd CC, stepQ o (by rw [setRd _ _ _ _ _ _ h0 d.lr]; rfl) QQ⟩
  · have hE : allW n f ⟨15, rd, s1, s2, I⟩ pc (R s1) (R s2) = ⟨pc, pc, 2, 3, 0, 0, 0, 0, 0, false, 0⟩ := by rw [allW_load n f ⟨15, rd, s1, s2, I⟩ pc (R s1) (R s2) (by show 0 < ldn 15; decide)]; exact loadC_no n f 15 rd s1 s2 I pc (R s1) q hq (by decide) ho
    have dd : Does n pc 2 3 0 0 0 0 0 0 0 0 := ⟨rfl, rfl, rfl, by omega, fun _ => rfl, .inr (.inr ⟨rfl, by omega, by omega⟩), .inl rfl, by omega, by omega, by omega, by omega, by first | exact hV.1 | omega, by first | exact hV.2 | omega⟩
    refine ⟨_, 2, _, 0, 0, 0, 0, 0, 0, 0, 0, false, 0, (by first | exact hE | exact hE.trans (by rw [h0])), dd, fun w p c o => ?_⟩
    have d := DD w p c o
    have hbig := o.hT2.size
    obtain ⟨cm, ct⟩ := memLoad_no o 15 q q1 ho
    rw [← hq] at cm ct
    have CC : ∀ W, Below w.heap.size w W → Calls Tryd.prog 33 #[hv R pc 0 0, .slice p n c] W fun e w' => e = .returned (cv pc pc 2 3 0 0 0 0 0 false 0) ∧ Below W.heap.size W w' := fun W hW => by have h := hcommit_dec o d (by omega) (by omega) s1 s2 (by unfold ra; exact if_neg (by show ¬ ((15 : Int) = 47); omega)) (by unfold rb; exact if_neg (by show ¬ ((15 : Int) = 47); omega)) (by omega) (by omega) W hW; rw [hE] at h; exact h
    have QQ : ∀ W, Below w.heap.size w W → ∀ D, Hid (Did D (ccs pc pc 2 3 0 0 0 0 0 false 0) (((hcs R pc 0 0).setIfInBounds 33 (.int .i64 2)).setIfInBounds 34 (.int .i64 3)) p n c) → Calls Tryd.prog 18 #[hv R pc 0 0, .slice p n c] W fun e w' => e = .returned (.agg D) ∧ Below W.heap.size W w' := fun W hW D hD => qLoadX (hcs R pc 0 0) pc p n c W X I (I % 4294967296) ((pc + 4) % 4294967296) ((R s1 + I) % 4294967296) (R s1) (R s2) (R rd) rd s1 s2 D 15 0 (by omega) (by omega) rfl (hcs_ones _ _ _ _) rfl rfl rfl hA hB hRd d.l1 d.l2 d.lr d.i0 d.i1 (fun W' hW' => d.CLt W' (under hW hW')) d.CDt CO CN CT' (fun W' hW' => ct W' (under hW hW')) (fun W' => qtrap_any (hcs R pc 0 0) pc 3 p n c W' rfl (hcs_ones _ _ _ _) rfl ⟨_, rfl⟩ ⟨_, rfl⟩ D hD) hD
    exact ⟨stepP o dd CC, stepQ o rfl QQ⟩

end Go.Proofs.YtpiohehijkpghaaDoor
namespace Go.Proofs.YtpiohehijkpghaaDoor
open Go.RowKit
open Hy
set_option linter.unusedVariables false

set_option maxRecDepth 20000 in
set_option maxHeartbeats 1000000 in
theorem gFence {R : Nat → Int} {pc : Int} {n : Nat} {f : Nat → Int} {X I : Int} {rd s1 s2 : Nat} (z : Rng R pc n f) (fl : Fld rd s1 s2 I) (DD : ∀ w p c, Ok w R pc p n c f → Dec w R pc p n c f X 46 rd s1 s2 I) : All R pc n f (allW n f ⟨46, rd, s1, s2, I⟩ pc (R s1) (R s2)) := by
  have hA := hcs_reg R pc 0 0 s1 fl.l1
  have hB := hcs_reg R pc 0 0 s2 fl.l2
  have hRd := hcs_reg R pc 0 0 rd fl.lr
  obtain ⟨a0, a1⟩ := z.hR s1 fl.l1
  obtain ⟨b0, b1⟩ := z.hR s2 fl.l2
  have p0 := z.p0
  have p1 := z.p1
  have fi0 := fl.i0
  have fi1 := fl.i1
  have CO := fun W => rOf_any I W
  have CN := fun W => qsum_any pc 4 p0 p1 (by omega) (by omega) W
  have CT := fun W => qsum_any (R s1) (I % 4294967296) a0 a1 (by omega) (by omega) W
  have hl1 := fl.l1
  have hl2 := fl.l2
  have hE : allW n f ⟨46, rd, s1, s2, I⟩ pc (R s1) (R s2) = ⟨pc, ((pc + 4) % 4294967296), 0, 0, 0, (0), 0, 0, 0, false, 0⟩ := by rw [allW_not n f ⟨46, rd, s1, s2, I⟩ pc (R s1) (R s2) (by show ((46 : Int)) < 11 ∨ 15 < ((46 : Int)); omega)]; rfl
  have dd : Does n ((pc + 4) % 4294967296) 0 0 0 0 0 0 0 0 0 0 := ⟨rfl, rfl, rfl, by omega, fun _ => rfl, .inl ⟨rfl, rfl⟩, .inl rfl, by omega, by omega, by omega, by omega, by first | exact hV.1 | omega, by first | exact hV.2 | omega⟩
  refine ⟨_, 0, 0, 0, 0, 0, 0, 0, 0, 0, 0, false, 0, (by first | exact hE | exact hE.trans (by rw [h0])), dd, fun w p c o => ?_⟩
  have d := DD w p c o
  have hbig := o.hT2.size
  have CC : ∀ W, Below w.heap.size w W → Calls Tryd.prog 33 #[hv R pc 0 0, .slice p n c] W fun e w' => e = .returned (cv pc ((pc + 4) % 4294967296) 0 0 0 (0) 0 0 0 false 0) ∧ Below W.heap.size W w' := fun W hW => by have h := hcommit_dec o d (by omega) (by omega) s1 s2 (by unfold ra; exact if_neg (by show ¬ ((46 : Int) = 47); omega)) (by unfold rb; exact if_neg (by show ¬ ((46 : Int) = 47); omega)) (by omega) (by omega) W hW; rw [hE] at h; exact h
  have QQ : ∀ W, Below w.heap.size w W → ∀ D, Hid (Did D (ccs pc ((pc + 4) % 4294967296) 0 0 0 (0) 0 0 0 false 0) ((hcs R pc 0 0).setIfInBounds 32 (.int .u32 ((pc + 4) % 4294967296))) p n c) → Calls Tryd.prog 18 #[hv R pc 0 0, .slice p n c] W fun e w' => e = .returned (.agg D) ∧ Below W.heap.size W w' := fun W hW D hD => qFence (hcs R pc 0 0) pc p n c W X I (I % 4294967296) ((pc + 4) % 4294967296) ((R s1 + I % 4294967296) % 4294967296) (R s1) (R s2) (R rd) rd s1 s2 D rfl (hcs_ones _ _ _ _) rfl rfl rfl hA hB hRd d.l1 d.l2 d.lr d.i0 d.i1 (fun W' hW' => d.CLt W' (under hW hW')) d.CDt CO CN CT hD
  exact ⟨stepP o dd CC, stepQ o rfl QQ⟩

set_option maxRecDepth 20000 in
set_option maxHeartbeats 1000000 in
theorem gBreak {R : Nat → Int} {pc : Int} {n : Nat} {f : Nat → Int} {X I : Int} {rd s1 s2 : Nat} (z : Rng R pc n f) (fl : Fld rd s1 s2 I) (DD : ∀ w p c, Ok w R pc p n c f → Dec w R pc p n c f X 48 rd s1 s2 I) : All R pc n f (allW n f ⟨48, rd, s1, s2, I⟩ pc (R s1) (R s2)) := by
  have hA := hcs_reg R pc 0 0 s1 fl.l1
  have hB := hcs_reg R pc 0 0 s2 fl.l2
  have hRd := hcs_reg R pc 0 0 rd fl.lr
  obtain ⟨a0, a1⟩ := z.hR s1 fl.l1
  obtain ⟨b0, b1⟩ := z.hR s2 fl.l2
  have p0 := z.p0
  have p1 := z.p1
  have fi0 := fl.i0
  have fi1 := fl.i1
  have CO := fun W => rOf_any I W
  have CN := fun W => qsum_any pc 4 p0 p1 (by omega) (by omega) W
  have CT := fun W => qsum_any (R s1) (I % 4294967296) a0 a1 (by omega) (by omega) W
  have hl1 := fl.l1
  have hl2 := fl.l2
  have hE : allW n f ⟨48, rd, s1, s2, I⟩ pc (R s1) (R s2) = ⟨pc, pc, 2, 6, 0, 0, 0, 0, 0, false, 0⟩ := by rw [allW_not n f ⟨48, rd, s1, s2, I⟩ pc (R s1) (R s2) (by show ((48 : Int)) < 11 ∨ 15 < ((48 : Int)); omega)]; rfl
  have dd : Does n pc 2 6 0 0 0 0 0 0 0 0 := ⟨rfl, rfl, rfl, by omega, fun _ => rfl, .inr (.inr ⟨rfl, by omega, by omega⟩), .inl rfl, by omega, by omega, by omega, by omega, by first | exact hV.1 | omega, by first | exact hV.2 | omega⟩
  refine ⟨_, 2, _, 0, 0, 0, 0, 0, 0, 0, 0, false, 0, (by first | exact hE | exact hE.trans (by rw [h0])), dd, fun w p c o => ?_⟩
  have d := DD w p c o
  have hbig := o.hT2.size
  have CC : ∀ W, Below w.heap.size w W → Calls Tryd.prog 33 #[hv R pc 0 0, .slice p n c] W fun e w' => e = .returned (cv pc pc 2 6 0 0 0 0 0 false 0) ∧ Below W.heap.size W w' := fun W hW => by have h := hcommit_dec o d (by omega) (by omega) s1 s2 (by unfold ra; exact if_neg (by show ¬ ((48 : Int) = 47); omega)) (by unfold rb; exact if_neg (by show ¬ ((48 : Int) = 47); omega)) (by omega) (by omega) W hW; rw [hE] at h; exact h
  have QQ : ∀ W, Below w.heap.size w W → ∀ D, Hid (Did D (ccs pc pc 2 6 0 0 0 0 0 false 0) (((hcs R pc 0 0).setIfInBounds 33 (.int .i64 2)).setIfInBounds 34 (.int .i64 6)) p n c) → Calls Tryd.prog 18 #[hv R pc 0 0, .slice p n c] W fun e w' => e = .returned (.agg D) ∧ Below W.heap.size W w' := fun W hW D hD => qBreak (hcs R pc 0 0) pc p n c W X I (I % 4294967296) ((pc + 4) % 4294967296) ((R s1 + I % 4294967296) % 4294967296) (R s1) (R s2) (R rd) rd s1 s2 D rfl (hcs_ones _ _ _ _) rfl rfl rfl hA hB hRd d.l1 d.l2 d.lr d.i0 d.i1 (fun W' hW' => d.CLt W' (under hW hW')) d.CDt CO CN CT (fun W' => qtrap_any (hcs R pc 0 0) pc 6 p n c W' rfl (hcs_ones _ _ _ _) rfl ⟨_, rfl⟩ ⟨_, rfl⟩ D hD) hD
  exact ⟨stepP o dd CC, stepQ o rfl QQ⟩

set_option maxRecDepth 20000 in
set_option maxHeartbeats 1000000 in
theorem gCall {R : Nat → Int} {pc : Int} {n : Nat} {f : Nat → Int} {X I : Int} {rd s1 s2 : Nat} (z : Rng R pc n f) (fl : Fld rd s1 s2 I) (DD : ∀ w p c, Ok w R pc p n c f → Dec w R pc p n c f X 47 rd s1 s2 I) : All R pc n f (allW n f ⟨47, rd, s1, s2, I⟩ pc (R 17) (R 10)) := by
  have hA := hcs_reg R pc 0 0 s1 fl.l1
  have hB := hcs_reg R pc 0 0 s2 fl.l2
  have hRd := hcs_reg R pc 0 0 rd fl.lr
  obtain ⟨a0, a1⟩ := z.hR s1 fl.l1
  obtain ⟨b0, b1⟩ := z.hR s2 fl.l2
  have p0 := z.p0
  have p1 := z.p1
  have fi0 := fl.i0
  have fi1 := fl.i1
  have CO := fun W => rOf_any I W
  have CN := fun W => qsum_any pc 4 p0 p1 (by omega) (by omega) W
  have CT := fun W => qsum_any (R s1) (I % 4294967296) a0 a1 (by omega) (by omega) W
  have hl1 := fl.l1
  have hl2 := fl.l2
  by_cases e0 : R 17 = 0
  · have hE : allW n f ⟨47, rd, s1, s2, I⟩ pc (R 17) (R 10) = ⟨pc, pc, 1, 0, 0, 0, 0, 0, 0, false, 0⟩ := by rw [allW_not n f ⟨47, rd, s1, s2, I⟩ pc (R 17) (R 10) (by show ((47 : Int)) < 11 ∨ 15 < ((47 : Int)); omega), doW_call, if_pos e0]
    have dd : Does n pc 1 0 0 0 0 0 0 0 0 0 := ⟨rfl, rfl, rfl, by omega, fun _ => rfl, .inr (.inl ⟨rfl, rfl⟩), .inl rfl, by omega, by omega, by omega, by omega, by first | exact hV.1 | omega, by first | exact hV.2 | omega⟩
    refine ⟨_, 1, 0, 0, 0, 0, 0, 0, 0, 0, 0, false, 0, (by first | exact hE | exact hE.trans (by rw [h0])), dd, fun w p c o => ?_⟩
    have d := DD w p c o
    have hbig := o.hT2.size
    have h17 : (hcs R pc 0 0)[17]? = some (.int .u32 0) := by rw [← e0]; rfl
    have CC : ∀ W, Below w.heap.size w W → Calls Tryd.prog 33 #[hv R pc 0 0, .slice p n c] W fun e w' => e = .returned (cv pc pc 1 0 0 0 0 0 0 false 0) ∧ Below W.heap.size W w' := fun W hW => by have h := hcommit_dec o d (by omega) (by omega) 17 10 (by unfold ra; exact if_pos rfl) (by unfold rb; exact if_pos rfl) (by omega) (by omega) W hW; rw [hE] at h; exact h
    have QQ : ∀ W, Below w.heap.size w W → ∀ D, Hid (Did D (ccs pc pc 1 0 0 0 0 0 0 false 0) (((hcs R pc 0 0).setIfInBounds 33 (.int .i64 1)).setIfInBounds 32 (.int .u32 pc)) p n c) → Calls Tryd.prog 18 #[hv R pc 0 0, .slice p n c] W fun e w' => e = .returned (.agg D) ∧ Below W.heap.size W w' := fun W hW D hD => qCall0 (hcs R pc 0 0) pc p n c W X I (I % 4294967296) ((pc + 4) % 4294967296) ((R s1 + I % 4294967296) % 4294967296) (R s1) (R s2) (R rd) rd s1 s2 D (R 10) h17 rfl rfl (hcs_ones _ _ _ _) rfl rfl rfl hA hB hRd d.l1 d.l2 d.lr d.i0 d.i1 (fun W' hW' => d.CLt W' (under hW hW')) d.CDt CO CN CT hD
    exact ⟨stepP o dd CC, stepQ o rfl QQ⟩
  · by_cases e1 : R 17 = 1
    · have hE : allW n f ⟨47, rd, s1, s2, I⟩ pc (R 17) (R 10) = ⟨pc, ((pc + 4) % 4294967296), 0, 0, 0, 0, 0, 0, 0, true, (R 10)⟩ := by rw [allW_not n f ⟨47, rd, s1, s2, I⟩ pc (R 17) (R 10) (by show ((47 : Int)) < 11 ∨ 15 < ((47 : Int)); omega), doW_call, if_neg e0, if_pos e1]
      have dd : Does n ((pc + 4) % 4294967296) 0 0 0 0 0 0 0 0 0 0 := ⟨rfl, rfl, rfl, by omega, fun _ => rfl, .inl ⟨rfl, rfl⟩, .inl rfl, by omega, by omega, by omega, by omega, by first | exact hV.1 | omega, by first | exact hV.2 | omega⟩
      refine ⟨_, 0, 0, 0, 0, 0, 0, 0, 0, 0, 0, true, R 10, (by first | exact hE | exact hE.trans (by rw [h0])), dd, fun w p c o => ?_⟩
      have d := DD w p c o
      have hbig := o.hT2.size
      have h17 : (hcs R pc 0 0)[17]? = some (.int .u32 1) := by rw [← e1]; rfl
      have CC : ∀ W, Below w.heap.size w W → Calls Tryd.prog 33 #[hv R pc 0 0, .slice p n c] W fun e w' => e = .returned (cv pc ((pc + 4) % 4294967296) 0 0 0 0 0 0 0 true (R 10)) ∧ Below W.heap.size W w' := fun W hW => by have h := hcommit_dec o d (by omega) (by omega) 17 10 (by unfold ra; exact if_pos rfl) (by unfold rb; exact if_pos rfl) (by omega) (by omega) W hW; rw [hE] at h; exact h
      have QQ : ∀ W, Below w.heap.size w W → ∀ D, Hid (Did D (ccs pc ((pc + 4) % 4294967296) 0 0 0 0 0 0 0 true (R 10)) ((hcs R pc 0 0).setIfInBounds 32 (.int .u32 ((pc + 4) % 4294967296))) p n c) → Calls Tryd.prog 18 #[hv R pc 0 0, .slice p n c] W fun e w' => e = .returned (.agg D) ∧ Below W.heap.size W w' := fun W hW D hD => qCall1 (hcs R pc 0 0) pc p n c W X I (I % 4294967296) ((pc + 4) % 4294967296) ((R s1 + I % 4294967296) % 4294967296) (R s1) (R s2) (R rd) rd s1 s2 D (R 10) h17 rfl rfl (hcs_ones _ _ _ _) rfl rfl rfl hA hB hRd d.l1 d.l2 d.lr d.i0 d.i1 (fun W' hW' => d.CLt W' (under hW hW')) d.CDt CO CN CT hD
      exact ⟨stepP o dd CC, stepQ o rfl QQ⟩
    · have hE : allW n f ⟨47, rd, s1, s2, I⟩ pc (R 17) (R 10) = ⟨pc, pc, 2, 5, 0, 0, 0, 0, 0, false, 0⟩ := by rw [allW_not n f ⟨47, rd, s1, s2, I⟩ pc (R 17) (R 10) (by show ((47 : Int)) < 11 ∨ 15 < ((47 : Int)); omega), doW_call, if_neg e0, if_neg e1]; rfl
      have dd : Does n pc 2 5 0 0 0 0 0 0 0 0 := ⟨rfl, rfl, rfl, by omega, fun _ => rfl, .inr (.inr ⟨rfl, by omega, by omega⟩), .inl rfl, by omega, by omega, by omega, by omega, by first | exact hV.1 | omega, by first | exact hV.2 | omega⟩
      refine ⟨_, 2, _, 0, 0, 0, 0, 0, 0, 0, 0, false, 0, (by first | exact hE | exact hE.trans (by rw [h0])), dd, fun w p c o => ?_⟩
      have d := DD w p c o
      have hbig := o.hT2.size
      have n0 : (R 17 == 0) = false := beq_eq_false_iff_ne.2 e0
      have n1 : (R 17 == 1) = false := beq_eq_false_iff_ne.2 e1
      have CC : ∀ W, Below w.heap.size w W → Calls Tryd.prog 33 #[hv R pc 0 0, .slice p n c] W fun e w' => e = .returned (cv pc pc 2 5 0 0 0 0 0 false 0) ∧ Below W.heap.size W w' := fun W hW => by have h := hcommit_dec o d (by omega) (by omega) 17 10 (by unfold ra; exact if_pos rfl) (by unfold rb; exact if_pos rfl) (by omega) (by omega) W hW; rw [hE] at h; exact h
      have QQ : ∀ W, Below w.heap.size w W → ∀ D, Hid (Did D (ccs pc pc 2 5 0 0 0 0 0 false 0) (((hcs R pc 0 0).setIfInBounds 33 (.int .i64 2)).setIfInBounds 34 (.int .i64 5)) p n c) → Calls Tryd.prog 18 #[hv R pc 0 0, .slice p n c] W fun e w' => e = .returned (.agg D) ∧ Below W.heap.size W w' := fun W hW D hD => qCallX (hcs R pc 0 0) pc p n c W X I (I % 4294967296) ((pc + 4) % 4294967296) ((R s1 + I % 4294967296) % 4294967296) (R s1) (R s2) (R rd) rd s1 s2 D (R 10) (R 17) rfl rfl n0 n1 rfl (hcs_ones _ _ _ _) rfl rfl rfl hA hB hRd d.l1 d.l2 d.lr d.i0 d.i1 (fun W' hW' => d.CLt W' (under hW hW')) d.CDt CO CN CT (fun W' => qtrap_any (hcs R pc 0 0) pc 5 p n c W' rfl (hcs_ones _ _ _ _) rfl ⟨_, rfl⟩ ⟨_, rfl⟩ D hD) hD
      exact ⟨stepP o dd CC, stepQ o rfl QQ⟩

end Go.Proofs.YtpiohehijkpghaaDoor
namespace Go.Proofs.YtpiohehijkpghaaDoor
open Go.RowKit
open Hy
set_option linter.unusedVariables false

theorem sto_mod1 (f : Nat → Int) (a : Nat) (B : Int) : sto f a (B % 256) 1 = sto f a B 1 := by
  funext i
  unfold sto
  by_cases h : a ≤ i ∧ i < a + 1
  · rw [if_pos h, if_pos h, show i - a = 0 by omega, show p256 0 = 1 from rfl]; omega
  · rw [if_neg h, if_neg h]
theorem sto_mod2 (f : Nat → Int) (a : Nat) (B : Int) : sto f a (B % 65536) 2 = sto f a B 2 := by
  funext i
  unfold sto
  by_cases h : a ≤ i ∧ i < a + 2
  · rw [if_pos h, if_pos h]
    rcases (by omega : i - a = 0 ∨ i - a = 1) with e | e
    · rw [e, show p256 0 = 1 from rfl]; omega
    · rw [e, show p256 1 = 256 from rfl]; omega
  · rw [if_neg h, if_neg h]

set_option maxRecDepth 20000 in
set_option maxHeartbeats 1000000 in
theorem gStore1 {R : Nat → Int} {pc : Int} {n : Nat} {f : Nat → Int} {X I : Int} {rd s1 s2 : Nat} (z : Rng R pc n f) (fl : Fld rd s1 s2 I) (DD : ∀ w p c, Ok w R pc p n c f → Dec w R pc p n c f X 16 rd s1 s2 I) : All R pc n f (allW n f ⟨16, rd, s1, s2, I⟩ pc (R s1) (R s2)) := by
  have hA := hcs_reg R pc 0 0 s1 fl.l1
  have hB := hcs_reg R pc 0 0 s2 fl.l2
  have hRd := hcs_reg R pc 0 0 rd fl.lr
  obtain ⟨a0, a1⟩ := z.hR s1 fl.l1
  obtain ⟨b0, b1⟩ := z.hR s2 fl.l2
  have p0 := z.p0
  have p1 := z.p1
  have fi0 := fl.i0
  have fi1 := fl.i1
  have CO := fun W => rOf_any I W
  have CN := fun W => qsum_any pc 4 p0 p1 (by omega) (by omega) W
  have CT := fun W => qsum_any (R s1) (I % 4294967296) a0 a1 (by omega) (by omega) W
  have hl1 := fl.l1
  have hl2 := fl.l2
  have eTH : (R s1 + I % 4294967296) % 4294967296 = (R s1 + I) % 4294967296 := by omega
  have CT' : ∀ W, Calls Tryd.prog 39 #[.int .u32 (R s1), .int .u32 (I % 4294967296)] W fun e w' => e = .returned (.int .u32 ((R s1 + I) % 4294967296)) ∧ w' = W := fun W => by rw [← eTH]; exact CT W
  obtain ⟨a, ea⟩ := Int.eq_ofNat_of_zero_le (show 0 ≤ (R s1 + I) % 4294967296 by omega)
  have q1 : (a : Int) ≤ 4294967295 := by omega
  by_cases ho : 0 < stn 16 ∧ (a : Int) % stn 16 = 0 ∧ (a : Int) + stn 16 ≤ n
  · have han : a + 1 ≤ n := by
      have h := ho.2.2
      rw [show stn 16 = 1 from rfl] at h
      omega
    have CW : ∀ W, Calls Tryd.prog 72 #[.int .u32 (R s2), .int .u32 ((1 : Nat) : Int)] W fun e w' => e = .returned (.int .u32 (R s2 % 256)) ∧ w' = W := fun W => by
      have h := lowest_any (R s2) 1 (by omega) b0 b1 W
      rwa [show R s2 % p256 1 = R s2 % 256 by (show R s2 % 256 = _; omega)] at h
    have hE : allW n f ⟨16, rd, s1, s2, I⟩ pc (R s1) (R s2) = ⟨pc, ((pc + 4) % 4294967296), 0, 0, 0, 0, ((R s1 + I) % 4294967296), 1, (R s2 % 256), false, 0⟩ := by rw [allW_not n f ⟨16, rd, s1, s2, I⟩ pc (R s1) (R s2) (by show ((16 : Int)) < 11 ∨ 15 < ((16 : Int)); omega), doW_sto_yes n 16 rd s1 s2 I pc (R s1) (R s2) a (by omega) ea ho]; show Cm.mk _ _ _ _ _ _ _ _ (R s2 % p256 1) _ _ = _; rw [show R s2 % p256 1 = R s2 % 256 by (show R s2 % 256 = _; omega)]; rfl
    have dd : Does n ((pc + 4) % 4294967296) 0 0 0 0 0 ((R s1 + I) % 4294967296) 1 a 1 (R s2 % 256) := ⟨rfl, ea, rfl, by omega, fun _ => rfl, .inl ⟨rfl, rfl⟩, .inr ⟨by omega, by omega⟩, by omega, by omega, by omega, by omega, by first | exact hV.1 | omega, by first | exact hV.2 | omega⟩
    refine ⟨_, 0, 0, 0, 0, 0, _, _, a, 1, _, false, 0, (by first | exact hE | exact hE.trans (by rw [h0])), dd, fun w p c o => ?_⟩
    have d := DD w p c o
    have hbig := o.hT2.size
    obtain ⟨cm, ct⟩ := memStore_yes o 16 (R s2) a 1 rfl (by omega) q1 b0 b1 ho
    rw [← ea] at cm ct
    have CC : ∀ W, Below w.heap.size w W → Calls Tryd.prog 33 #[hv R pc 0 0, .slice p n c] W fun e w' => e = .returned (cv pc ((pc + 4) % 4294967296) 0 0 0 0 ((R s1 + I) % 4294967296) 1 (R s2 % 256) false 0) ∧ Below W.heap.size W w' := fun W hW => by have h := hcommit_dec o d (by omega) (by omega) s1 s2 (by unfold ra; exact if_neg (by show ¬ ((16 : Int) = 47); omega)) (by unfold rb; exact if_neg (by show ¬ ((16 : Int) = 47); omega)) (by omega) (by omega) W hW; rw [hE] at h; exact h
    have QQ : QStepS w R pc p n c f ((pc + 4) % 4294967296) 0 0 0 0 0 ((R s1 + I) % 4294967296) 1 a 1 (R s2 % 256) false 0 := fun W hW =>
      (qStore1 (hcs R pc 0 0) pc p n c W X I (I % 4294967296) ((pc + 4) % 4294967296) ((R s1 + I) % 4294967296) (R s1) (R s2) (R rd) rd s1 s2 (sto f a (R s2) 1) b0 b1 rfl (hcs_ones _ _ _ _) rfl rfl rfl hA hB hRd d.l1 d.l2 d.lr d.i0 d.i1 (fun W' hW' => d.CLt W' (under hW hW')) d.CDt CO CN CT' (fun W' hW' => ct W' (under hW hW')) (fun W' => tSize_store 16 W') (fun W' => rPower_any 8 (by omega) W')).mono fun e w' ⟨⟨D, h, cap, he, hD, hcap, hF⟩, hb⟩ => ⟨⟨D, some ⟨h, 0, none⟩, cap, he, hD, hcap, (by rw [sto_mod1]; exact Mem.ofFr hF), .inr ⟨h, rfl⟩⟩, hb⟩
    exact ⟨stepP o dd CC, QQ⟩
  · have hE : allW n f ⟨16, rd, s1, s2, I⟩ pc (R s1) (R s2) = ⟨pc, pc, 2, 4, 0, 0, 0, 0, 0, false, 0⟩ := by rw [allW_not n f ⟨16, rd, s1, s2, I⟩ pc (R s1) (R s2) (by show ((16 : Int)) < 11 ∨ 15 < ((16 : Int)); omega), doW_sto_no n 16 rd s1 s2 I pc (R s1) (R s2) a (by omega) ea (by decide) ho]; rfl
    have dd : Does n pc 2 4 0 0 0 0 0 0 0 0 := ⟨rfl, rfl, rfl, by omega, fun _ => rfl, .inr (.inr ⟨rfl, by omega, by omega⟩), .inl rfl, by omega, by omega, by omega, by omega, by first | exact hV.1 | omega, by first | exact hV.2 | omega⟩
    refine ⟨_, 2, _, 0, 0, 0, 0, 0, 0, 0, 0, false, 0, (by first | exact hE | exact hE.trans (by rw [h0])), dd, fun w p c o => ?_⟩
    have d := DD w p c o
    have hbig := o.hT2.size
    obtain ⟨cm, ct⟩ := memStore_no o 16 (R s2) a q1 ho
    rw [← ea] at cm ct
    have CC : ∀ W, Below w.heap.size w W → Calls Tryd.prog 33 #[hv R pc 0 0, .slice p n c] W fun e w' => e = .returned (cv pc pc 2 4 0 0 0 0 0 false 0) ∧ Below W.heap.size W w' := fun W hW => by have h := hcommit_dec o d (by omega) (by omega) s1 s2 (by unfold ra; exact if_neg (by show ¬ ((16 : Int) = 47); omega)) (by unfold rb; exact if_neg (by show ¬ ((16 : Int) = 47); omega)) (by omega) (by omega) W hW; rw [hE] at h; exact h
    have QQ : ∀ W, Below w.heap.size w W → ∀ D, Hid (Did D (ccs pc pc 2 4 0 0 0 0 0 false 0) (((hcs R pc 0 0).setIfInBounds 33 (.int .i64 2)).setIfInBounds 34 (.int .i64 4)) p n c) → Calls Tryd.prog 18 #[hv R pc 0 0, .slice p n c] W fun e w' => e = .returned (.agg D) ∧ Below W.heap.size W w' := fun W hW D hD => qStoreX (hcs R pc 0 0) pc p n c W X I (I % 4294967296) ((pc + 4) % 4294967296) ((R s1 + I) % 4294967296) (R s1) (R s2) (R rd) rd s1 s2 D 16 (by omega) (by omega) rfl (hcs_ones _ _ _ _) rfl rfl rfl hA hB hRd d.l1 d.l2 d.lr d.i0 d.i1 (fun W' hW' => d.CLt W' (under hW hW')) d.CDt CO CN CT' (fun W' hW' => ct W' (under hW hW')) (fun W' => qtrap_any (hcs R pc 0 0) pc 4 p n c W' rfl (hcs_ones _ _ _ _) rfl ⟨_, rfl⟩ ⟨_, rfl⟩ D hD) hD
    exact ⟨stepP o dd CC, stepQ o rfl QQ⟩

set_option maxRecDepth 20000 in
set_option maxHeartbeats 1000000 in
theorem gStore2 {R : Nat → Int} {pc : Int} {n : Nat} {f : Nat → Int} {X I : Int} {rd s1 s2 : Nat} (z : Rng R pc n f) (fl : Fld rd s1 s2 I) (DD : ∀ w p c, Ok w R pc p n c f → Dec w R pc p n c f X 17 rd s1 s2 I) : All R pc n f (allW n f ⟨17, rd, s1, s2, I⟩ pc (R s1) (R s2)) := by
  have hA := hcs_reg R pc 0 0 s1 fl.l1
  have hB := hcs_reg R pc 0 0 s2 fl.l2
  have hRd := hcs_reg R pc 0 0 rd fl.lr
  obtain ⟨a0, a1⟩ := z.hR s1 fl.l1
  obtain ⟨b0, b1⟩ := z.hR s2 fl.l2
  have p0 := z.p0
  have p1 := z.p1
  have fi0 := fl.i0
  have fi1 := fl.i1
  have CO := fun W => rOf_any I W
  have CN := fun W => qsum_any pc 4 p0 p1 (by omega) (by omega) W
  have CT := fun W => qsum_any (R s1) (I % 4294967296) a0 a1 (by omega) (by omega) W
  have hl1 := fl.l1
  have hl2 := fl.l2
  have eTH : (R s1 + I % 4294967296) % 4294967296 = (R s1 + I) % 4294967296 := by omega
  have CT' : ∀ W, Calls Tryd.prog 39 #[.int .u32 (R s1), .int .u32 (I % 4294967296)] W fun e w' => e = .returned (.int .u32 ((R s1 + I) % 4294967296)) ∧ w' = W := fun W => by rw [← eTH]; exact CT W
  obtain ⟨a, ea⟩ := Int.eq_ofNat_of_zero_le (show 0 ≤ (R s1 + I) % 4294967296 by omega)
  have q1 : (a : Int) ≤ 4294967295 := by omega
  by_cases ho : 0 < stn 17 ∧ (a : Int) % stn 17 = 0 ∧ (a : Int) + stn 17 ≤ n
  · have han : a + 2 ≤ n := by
      have h := ho.2.2
      rw [show stn 17 = 2 from rfl] at h
      omega
    have CW : ∀ W, Calls Tryd.prog 72 #[.int .u32 (R s2), .int .u32 ((2 : Nat) : Int)] W fun e w' => e = .returned (.int .u32 (R s2 % 65536)) ∧ w' = W := fun W => by
      have h := lowest_any (R s2) 2 (by omega) b0 b1 W
      rwa [show R s2 % p256 2 = R s2 % 65536 by (show R s2 % 65536 = _; omega)] at h
    have hE : allW n f ⟨17, rd, s1, s2, I⟩ pc (R s1) (R s2) = ⟨pc, ((pc + 4) % 4294967296), 0, 0, 0, 0, ((R s1 + I) % 4294967296), 2, (R s2 % 65536), false, 0⟩ := by rw [allW_not n f ⟨17, rd, s1, s2, I⟩ pc (R s1) (R s2) (by show ((17 : Int)) < 11 ∨ 15 < ((17 : Int)); omega), doW_sto_yes n 17 rd s1 s2 I pc (R s1) (R s2) a (by omega) ea ho]; show Cm.mk _ _ _ _ _ _ _ _ (R s2 % p256 2) _ _ = _; rw [show R s2 % p256 2 = R s2 % 65536 by (show R s2 % 65536 = _; omega)]; rfl
    have dd : Does n ((pc + 4) % 4294967296) 0 0 0 0 0 ((R s1 + I) % 4294967296) 2 a 2 (R s2 % 65536) := ⟨rfl, ea, rfl, by omega, fun _ => rfl, .inl ⟨rfl, rfl⟩, .inr ⟨by omega, by omega⟩, by omega, by omega, by omega, by omega, by first | exact hV.1 | omega, by first | exact hV.2 | omega⟩
    refine ⟨_, 0, 0, 0, 0, 0, _, _, a, 2, _, false, 0, (by first | exact hE | exact hE.trans (by rw [h0])), dd, fun w p c o => ?_⟩
    have d := DD w p c o
    have hbig := o.hT2.size
    obtain ⟨cm, ct⟩ := memStore_yes o 17 (R s2) a 2 rfl (by omega) q1 b0 b1 ho
    rw [← ea] at cm ct
    have CC : ∀ W, Below w.heap.size w W → Calls Tryd.prog 33 #[hv R pc 0 0, .slice p n c] W fun e w' => e = .returned (cv pc ((pc + 4) % 4294967296) 0 0 0 0 ((R s1 + I) % 4294967296) 2 (R s2 % 65536) false 0) ∧ Below W.heap.size W w' := fun W hW => by have h := hcommit_dec o d (by omega) (by omega) s1 s2 (by unfold ra; exact if_neg (by show ¬ ((17 : Int) = 47); omega)) (by unfold rb; exact if_neg (by show ¬ ((17 : Int) = 47); omega)) (by omega) (by omega) W hW; rw [hE] at h; exact h
    have QQ : QStepS w R pc p n c f ((pc + 4) % 4294967296) 0 0 0 0 0 ((R s1 + I) % 4294967296) 2 a 2 (R s2 % 65536) false 0 := fun W hW =>
      (qStore2 (hcs R pc 0 0) pc p n c W X I (I % 4294967296) ((pc + 4) % 4294967296) ((R s1 + I) % 4294967296) (R s1) (R s2) (R rd) rd s1 s2 (sto f a (R s2) 2) b0 b1 rfl (hcs_ones _ _ _ _) rfl rfl rfl hA hB hRd d.l1 d.l2 d.lr d.i0 d.i1 (fun W' hW' => d.CLt W' (under hW hW')) d.CDt CO CN CT' (fun W' hW' => ct W' (under hW hW')) (fun W' => tSize_store 17 W') (fun W' => rPower_any 16 (by omega) W')).mono fun e w' ⟨⟨D, h, cap, he, hD, hcap, hF⟩, hb⟩ => ⟨⟨D, some ⟨h, 0, none⟩, cap, he, hD, hcap, (by rw [sto_mod2]; exact Mem.ofFr hF), .inr ⟨h, rfl⟩⟩, hb⟩
    exact ⟨stepP o dd CC, QQ⟩
  · have hE : allW n f ⟨17, rd, s1, s2, I⟩ pc (R s1) (R s2) = ⟨pc, pc, 2, 4, 0, 0, 0, 0, 0, false, 0⟩ := by rw [allW_not n f ⟨17, rd, s1, s2, I⟩ pc (R s1) (R s2) (by show ((17 : Int)) < 11 ∨ 15 < ((17 : Int)); omega), doW_sto_no n 17 rd s1 s2 I pc (R s1) (R s2) a (by omega) ea (by decide) ho]; rfl
    have dd : Does n pc 2 4 0 0 0 0 0 0 0 0 := ⟨rfl, rfl, rfl, by omega, fun _ => rfl, .inr (.inr ⟨rfl, by omega, by omega⟩), .inl rfl, by omega, by omega, by omega, by omega, by first | exact hV.1 | omega, by first | exact hV.2 | omega⟩
    refine ⟨_, 2, _, 0, 0, 0, 0, 0, 0, 0, 0, false, 0, (by first | exact hE | exact hE.trans (by rw [h0])), dd, fun w p c o => ?_⟩
    have d := DD w p c o
    have hbig := o.hT2.size
    obtain ⟨cm, ct⟩ := memStore_no o 17 (R s2) a q1 ho
    rw [← ea] at cm ct
    have CC : ∀ W, Below w.heap.size w W → Calls Tryd.prog 33 #[hv R pc 0 0, .slice p n c] W fun e w' => e = .returned (cv pc pc 2 4 0 0 0 0 0 false 0) ∧ Below W.heap.size W w' := fun W hW => by have h := hcommit_dec o d (by omega) (by omega) s1 s2 (by unfold ra; exact if_neg (by show ¬ ((17 : Int) = 47); omega)) (by unfold rb; exact if_neg (by show ¬ ((17 : Int) = 47); omega)) (by omega) (by omega) W hW; rw [hE] at h; exact h
    have QQ : ∀ W, Below w.heap.size w W → ∀ D, Hid (Did D (ccs pc pc 2 4 0 0 0 0 0 false 0) (((hcs R pc 0 0).setIfInBounds 33 (.int .i64 2)).setIfInBounds 34 (.int .i64 4)) p n c) → Calls Tryd.prog 18 #[hv R pc 0 0, .slice p n c] W fun e w' => e = .returned (.agg D) ∧ Below W.heap.size W w' := fun W hW D hD => qStoreX (hcs R pc 0 0) pc p n c W X I (I % 4294967296) ((pc + 4) % 4294967296) ((R s1 + I) % 4294967296) (R s1) (R s2) (R rd) rd s1 s2 D 17 (by omega) (by omega) rfl (hcs_ones _ _ _ _) rfl rfl rfl hA hB hRd d.l1 d.l2 d.lr d.i0 d.i1 (fun W' hW' => d.CLt W' (under hW hW')) d.CDt CO CN CT' (fun W' hW' => ct W' (under hW hW')) (fun W' => qtrap_any (hcs R pc 0 0) pc 4 p n c W' rfl (hcs_ones _ _ _ _) rfl ⟨_, rfl⟩ ⟨_, rfl⟩ D hD) hD
    exact ⟨stepP o dd CC, stepQ o rfl QQ⟩

set_option maxRecDepth 20000 in
set_option maxHeartbeats 1000000 in
theorem gStore4 {R : Nat → Int} {pc : Int} {n : Nat} {f : Nat → Int} {X I : Int} {rd s1 s2 : Nat} (z : Rng R pc n f) (fl : Fld rd s1 s2 I) (DD : ∀ w p c, Ok w R pc p n c f → Dec w R pc p n c f X 18 rd s1 s2 I) : All R pc n f (allW n f ⟨18, rd, s1, s2, I⟩ pc (R s1) (R s2)) := by
  have hA := hcs_reg R pc 0 0 s1 fl.l1
  have hB := hcs_reg R pc 0 0 s2 fl.l2
  have hRd := hcs_reg R pc 0 0 rd fl.lr
  obtain ⟨a0, a1⟩ := z.hR s1 fl.l1
  obtain ⟨b0, b1⟩ := z.hR s2 fl.l2
  have p0 := z.p0
  have p1 := z.p1
  have fi0 := fl.i0
  have fi1 := fl.i1
  have CO := fun W => rOf_any I W
  have CN := fun W => qsum_any pc 4 p0 p1 (by omega) (by omega) W
  have CT := fun W => qsum_any (R s1) (I % 4294967296) a0 a1 (by omega) (by omega) W
  have hl1 := fl.l1
  have hl2 := fl.l2
  have eTH : (R s1 + I % 4294967296) % 4294967296 = (R s1 + I) % 4294967296 := by omega
  have CT' : ∀ W, Calls Tryd.prog 39 #[.int .u32 (R s1), .int .u32 (I % 4294967296)] W fun e w' => e = .returned (.int .u32 ((R s1 + I) % 4294967296)) ∧ w' = W := fun W => by rw [← eTH]; exact CT W
  obtain ⟨a, ea⟩ := Int.eq_ofNat_of_zero_le (show 0 ≤ (R s1 + I) % 4294967296 by omega)
  have q1 : (a : Int) ≤ 4294967295 := by omega
  by_cases ho : 0 < stn 18 ∧ (a : Int) % stn 18 = 0 ∧ (a : Int) + stn 18 ≤ n
  · have han : a + 4 ≤ n := by
      have h := ho.2.2
      rw [show stn 18 = 4 from rfl] at h
      omega
    have CW : ∀ W, Calls Tryd.prog 72 #[.int .u32 (R s2), .int .u32 ((4 : Nat) : Int)] W fun e w' => e = .returned (.int .u32 (R s2)) ∧ w' = W := fun W => by
      have h := lowest_any (R s2) 4 (by omega) b0 b1 W
      rwa [show R s2 % p256 4 = R s2 by (show R s2 % 4294967296 = _; omega)] at h
    have hE : allW n f ⟨18, rd, s1, s2, I⟩ pc (R s1) (R s2) = ⟨pc, ((pc + 4) % 4294967296), 0, 0, 0, 0, ((R s1 + I) % 4294967296), 4, (R s2), false, 0⟩ := by rw [allW_not n f ⟨18, rd, s1, s2, I⟩ pc (R s1) (R s2) (by show ((18 : Int)) < 11 ∨ 15 < ((18 : Int)); omega), doW_sto_yes n 18 rd s1 s2 I pc (R s1) (R s2) a (by omega) ea ho]; show Cm.mk _ _ _ _ _ _ _ _ (R s2 % p256 4) _ _ = _; rw [show R s2 % p256 4 = R s2 by (show R s2 % 4294967296 = _; omega)]; rfl
    have dd : Does n ((pc + 4) % 4294967296) 0 0 0 0 0 ((R s1 + I) % 4294967296) 4 a 4 (R s2) := ⟨rfl, ea, rfl, by omega, fun _ => rfl, .inl ⟨rfl, rfl⟩, .inr ⟨by omega, by omega⟩, by omega, by omega, by omega, by omega, by first | exact hV.1 | omega, by first | exact hV.2 | omega⟩
    refine ⟨_, 0, 0, 0, 0, 0, _, _, a, 4, _, false, 0, (by first | exact hE | exact hE.trans (by rw [h0])), dd, fun w p c o => ?_⟩
    have d := DD w p c o
    have hbig := o.hT2.size
    obtain ⟨cm, ct⟩ := memStore_yes o 18 (R s2) a 4 rfl (by omega) q1 b0 b1 ho
    rw [← ea] at cm ct
    have CC : ∀ W, Below w.heap.size w W → Calls Tryd.prog 33 #[hv R pc 0 0, .slice p n c] W fun e w' => e = .returned (cv pc ((pc + 4) % 4294967296) 0 0 0 0 ((R s1 + I) % 4294967296) 4 (R s2) false 0) ∧ Below W.heap.size W w' := fun W hW => by have h := hcommit_dec o d (by omega) (by omega) s1 s2 (by unfold ra; exact if_neg (by show ¬ ((18 : Int) = 47); omega)) (by unfold rb; exact if_neg (by show ¬ ((18 : Int) = 47); omega)) (by omega) (by omega) W hW; rw [hE] at h; exact h
    have QQ : QStepS w R pc p n c f ((pc + 4) % 4294967296) 0 0 0 0 0 ((R s1 + I) % 4294967296) 4 a 4 (R s2) false 0 := fun W hW =>
      (qStore4 (hcs R pc 0 0) pc p n c W X I (I % 4294967296) ((pc + 4) % 4294967296) ((R s1 + I) % 4294967296) (R s1) (R s2) (R rd) rd s1 s2 (sto f a (R s2) 4) b0 b1 rfl (hcs_ones _ _ _ _) rfl rfl rfl hA hB hRd d.l1 d.l2 d.lr d.i0 d.i1 (fun W' hW' => d.CLt W' (under hW hW')) d.CDt CO CN CT' (fun W' hW' => ct W' (under hW hW')) (fun W' => tSize_store 18 W')).mono fun e w' ⟨⟨D, h, cap, he, hD, hcap, hF⟩, hb⟩ => ⟨⟨D, some ⟨h, 0, none⟩, cap, he, hD, hcap, Mem.ofFr hF, .inr ⟨h, rfl⟩⟩, hb⟩
    exact ⟨stepP o dd CC, QQ⟩
  · have hE : allW n f ⟨18, rd, s1, s2, I⟩ pc (R s1) (R s2) = ⟨pc, pc, 2, 4, 0, 0, 0, 0, 0, false, 0⟩ := by rw [allW_not n f ⟨18, rd, s1, s2, I⟩ pc (R s1) (R s2) (by show ((18 : Int)) < 11 ∨ 15 < ((18 : Int)); omega), doW_sto_no n 18 rd s1 s2 I pc (R s1) (R s2) a (by omega) ea (by decide) ho]; rfl
    have dd : Does n pc 2 4 0 0 0 0 0 0 0 0 := ⟨rfl, rfl, rfl, by omega, fun _ => rfl, .inr (.inr ⟨rfl, by omega, by omega⟩), .inl rfl, by omega, by omega, by omega, by omega, by first | exact hV.1 | omega, by first | exact hV.2 | omega⟩
    refine ⟨_, 2, _, 0, 0, 0, 0, 0, 0, 0, 0, false, 0, (by first | exact hE | exact hE.trans (by rw [h0])), dd, fun w p c o => ?_⟩
    have d := DD w p c o
    have hbig := o.hT2.size
    obtain ⟨cm, ct⟩ := memStore_no o 18 (R s2) a q1 ho
    rw [← ea] at cm ct
    have CC : ∀ W, Below w.heap.size w W → Calls Tryd.prog 33 #[hv R pc 0 0, .slice p n c] W fun e w' => e = .returned (cv pc pc 2 4 0 0 0 0 0 false 0) ∧ Below W.heap.size W w' := fun W hW => by have h := hcommit_dec o d (by omega) (by omega) s1 s2 (by unfold ra; exact if_neg (by show ¬ ((18 : Int) = 47); omega)) (by unfold rb; exact if_neg (by show ¬ ((18 : Int) = 47); omega)) (by omega) (by omega) W hW; rw [hE] at h; exact h
    have QQ : ∀ W, Below w.heap.size w W → ∀ D, Hid (Did D (ccs pc pc 2 4 0 0 0 0 0 false 0) (((hcs R pc 0 0).setIfInBounds 33 (.int .i64 2)).setIfInBounds 34 (.int .i64 4)) p n c) → Calls Tryd.prog 18 #[hv R pc 0 0, .slice p n c] W fun e w' => e = .returned (.agg D) ∧ Below W.heap.size W w' := fun W hW D hD => qStoreX (hcs R pc 0 0) pc p n c W X I (I % 4294967296) ((pc + 4) % 4294967296) ((R s1 + I) % 4294967296) (R s1) (R s2) (R rd) rd s1 s2 D 18 (by omega) (by omega) rfl (hcs_ones _ _ _ _) rfl rfl rfl hA hB hRd d.l1 d.l2 d.lr d.i0 d.i1 (fun W' hW' => d.CLt W' (under hW hW')) d.CDt CO CN CT' (fun W' hW' => ct W' (under hW hW')) (fun W' => qtrap_any (hcs R pc 0 0) pc 4 p n c W' rfl (hcs_ones _ _ _ _) rfl ⟨_, rfl⟩ ⟨_, rfl⟩ D hD) hD
    exact ⟨stepP o dd CC, stepQ o rfl QQ⟩

end Go.Proofs.YtpiohehijkpghaaDoor
namespace Go.Proofs.YtpiohehijkpghaaDoor
open Go.RowKit
open Hy
set_option linter.unusedVariables false

theorem gFetch {R : Nat → Int} {pc : Int} {n : Nat} {f : Nat → Int} (z : Rng R pc n f) (DD : ∀ w p c, Ok w R pc p n c f → (∀ W, Below w.heap.size w W → Calls Tryd.prog 52 #[.slice p n c, .int .i64 13, .int .u32 pc] W fun e w' => e = .returned (.tuple #[.int .u32 0, .bool false]) ∧ w' = W) ∧ (∀ W, Below w.heap.size w W → Calls Tryd.prog 36 #[.slice p n c, .int .i64 13, .int .u32 pc] W fun e w' => e = .returned (.tuple #[.int .u32 0, .bool false]) ∧ w' = W)) : All R pc n f (trapC pc 1) := by
  have p0 := z.p0
  have p1 := z.p1
  have hE : trapC pc 1 = ⟨pc, pc, 2, 1, 0, 0, 0, 0, 0, false, 0⟩ := by rfl
  have dd : Does n pc 2 1 0 0 0 0 0 0 0 0 := ⟨rfl, rfl, rfl, by omega, fun _ => rfl, .inr (.inr ⟨rfl, by omega, by omega⟩), .inl rfl, by omega, by omega, by omega, by omega, by first | exact hV.1 | omega, by first | exact hV.2 | omega⟩
  refine ⟨_, 2, _, 0, 0, 0, 0, 0, 0, 0, 0, false, 0, (by first | exact hE | exact hE.trans (by rw [h0])), dd, fun w p c o => ?_⟩
  have d := DD w p c o
  have hbig := o.hT2.size
  obtain ⟨cm, ct⟩ := d
  have CC : ∀ W, Below w.heap.size w W → Calls Tryd.prog 33 #[hv R pc 0 0, .slice p n c] W fun e w' => e = .returned (cv pc pc 2 1 0 0 0 0 0 false 0) ∧ Below W.heap.size W w' := fun W hW => hcFetch (hcs R pc 0 0) pc 0 p n c W rfl (fun W' hW' => cm W' (under hW hW'))
  have QQ : ∀ W, Below w.heap.size w W → ∀ D, Hid (Did D (ccs pc pc 2 1 0 0 0 0 0 false 0) (((hcs R pc 0 0).setIfInBounds 33 (.int .i64 2)).setIfInBounds 34 (.int .i64 1)) p n c) → Calls Tryd.prog 18 #[hv R pc 0 0, .slice p n c] W fun e w' => e = .returned (.agg D) ∧ Below W.heap.size W w' := fun W hW D hD => qFetch (hcs R pc 0 0) pc p n c W 0 D rfl rfl (fun W' hW' => ct W' (under hW hW')) (fun W' => qtrap_any (hcs R pc 0 0) pc 1 p n c W' rfl (hcs_ones _ _ _ _) rfl ⟨_, rfl⟩ ⟨_, rfl⟩ D hD) hD
  exact ⟨stepP o dd CC, stepQ o rfl QQ⟩

theorem gWord {R : Nat → Int} {pc : Int} {n : Nat} {f : Nat → Int} {X : Int} (z : Rng R pc n f) (DD : ∀ w p c, Ok w R pc p n c f → (∀ W, Below w.heap.size w W → Calls Tryd.prog 52 #[.slice p n c, .int .i64 13, .int .u32 pc] W fun e w' => e = .returned (.tuple #[.int .u32 X, .bool true]) ∧ w' = W) ∧ (∀ W, Below w.heap.size w W → Calls Tryd.prog 36 #[.slice p n c, .int .i64 13, .int .u32 pc] W fun e w' => e = .returned (.tuple #[.int .u32 X, .bool true]) ∧ w' = W)) (x0 : 0 ≤ X) (x1 : X ≤ 4294967295) (hf : ∀ m, 1 ≤ m → m ≤ 48 → hit m X = false) : All R pc n f (trapC pc 2) := by
  have p0 := z.p0
  have p1 := z.p1
  have hE : trapC pc 2 = ⟨pc, pc, 2, 2, 0, 0, 0, 0, 0, false, 0⟩ := by rfl
  have dd : Does n pc 2 2 0 0 0 0 0 0 0 0 := ⟨rfl, rfl, rfl, by omega, fun _ => rfl, .inr (.inr ⟨rfl, by omega, by omega⟩), .inl rfl, by omega, by omega, by omega, by omega, by first | exact hV.1 | omega, by first | exact hV.2 | omega⟩
  refine ⟨_, 2, _, 0, 0, 0, 0, 0, 0, 0, 0, false, 0, (by first | exact hE | exact hE.trans (by rw [h0])), dd, fun w p c o => ?_⟩
  have d := DD w p c o
  have hbig := o.hT2.size
  obtain ⟨cm, ct⟩ := d
  have h0 := o.hT.size
  have CC : ∀ W, Below w.heap.size w W → Calls Tryd.prog 33 #[hv R pc 0 0, .slice p n c] W fun e w' => e = .returned (cv pc pc 2 2 0 0 0 0 0 false 0) ∧ Below W.heap.size W w' := fun W hW => hcWord (hcs R pc 0 0) pc X p n c W rfl (fun W' hW' => cm W' (under hW hW')) (fun W' hW' => Decode_none X x0 x1 hf W' (o.hT.below (under hW hW') h0))
  have QQ : ∀ W, Below w.heap.size w W → ∀ D, Hid (Did D (ccs pc pc 2 2 0 0 0 0 0 false 0) (((hcs R pc 0 0).setIfInBounds 33 (.int .i64 2)).setIfInBounds 34 (.int .i64 2)) p n c) → Calls Tryd.prog 18 #[hv R pc 0 0, .slice p n c] W fun e w' => e = .returned (.agg D) ∧ Below W.heap.size W w' := fun W hW D hD => qWord (hcs R pc 0 0) pc p n c W X D rfl rfl (fun W' hW' => ct W' (under hW hW')) (fun W' => rDecode_none X x0 x1 hf W') (fun W' => qtrap_any (hcs R pc 0 0) pc 2 p n c W' rfl (hcs_ones _ _ _ _) rfl ⟨_, rfl⟩ ⟨_, rfl⟩ D hD) hD
  exact ⟨stepP o dd CC, stepQ o rfl QQ⟩

/-- Both Steps do the same, whatever lies at the hart's place, wherever the bytes lie. -/
theorem all {R : Nat → Int} {pc : Int} {n : Nat} {f : Nat → Int} (z : Rng R pc n f) : All R pc n f (stepW n R pc f) := by
  unfold stepW fetW
  obtain ⟨q, hq⟩ := Int.eq_ofNat_of_zero_le z.p0
  have q1 : (q : Int) ≤ 4294967295 := by have := z.p1; omega
  by_cases ho : 0 < ldn 13 ∧ (q : Int) % ldn 13 = 0 ∧ (q : Int) + ldn 13 ≤ n
  · obtain ⟨X, HX⟩ : ∃ X, X = ldv 13 (fun i => f (q + i)) := ⟨_, rfl⟩
    obtain ⟨x0, x1⟩ : 0 ≤ X ∧ X ≤ 4294967295 := by rw [HX]; exact ldv_rng 13 f n q ho z.hf
    have LD : ∀ w p c, Ok w R pc p n c f → (∀ W, Below w.heap.size w W → Calls Tryd.prog 52 #[.slice p n c, .int .i64 13, .int .u32 pc] W fun e w' => e = .returned (.tuple #[.int .u32 X, .bool true]) ∧ w' = W) ∧ (∀ W, Below w.heap.size w W → Calls Tryd.prog 36 #[.slice p n c, .int .i64 13, .int .u32 pc] W fun e w' => e = .returned (.tuple #[.int .u32 X, .bool true]) ∧ w' = W) := fun w p c o => by
      have h := memLoad_yes o 13 q q1 ho
      rw [← hq, ← HX] at h
      exact h
    have hq' : pc.toNat = q := by omega
    have hfi : fits n pc 4 = true := fits_iff.2 ⟨z.p0, by rw [hq]; exact ho.2⟩
    have hX : le (fun k => f (pc.toNat + k)) 4 = X := by rw [hq', HX]; rfl
    rw [if_pos hfi, hX]
    unfold dcdW
    rcases dec_cases X with ⟨m, m1, m2, hm, hmf⟩ | hnone
    · rw [dcdN_some X m m1 hm hmf 48 m2]
      obtain ⟨I, HI⟩ : ∃ I, Hid (I = rim (fm (kn m)) X) := ⟨_, rfl⟩
      obtain ⟨rd, Hrd⟩ : ∃ rd : Nat, Hid ((rd : Int) = rrg X 128 (fm (kn m) 1)) := ⟨(rrg X 128 (fm (kn m) 1)).toNat, Int.toNat_of_nonneg (rd_rng m (by omega) X x0 x1).1⟩
      obtain ⟨s1, Hs1⟩ : ∃ s1 : Nat, Hid ((s1 : Int) = rrg X 32768 (fm (kn m) 2)) := ⟨(rrg X 32768 (fm (kn m) 2)).toNat, Int.toNat_of_nonneg (rs1_rng m (by omega) X x0 x1).1⟩
      obtain ⟨s2, Hs2⟩ : ∃ s2 : Nat, Hid ((s2 : Int) = rrg X 1048576 (fm (kn m) 3)) := ⟨(rrg X 1048576 (fm (kn m) 3)).toNat, Int.toNat_of_nonneg (rs2_rng m (by omega) X x0 x1).1⟩
      have fl : Fld rd s1 s2 I := ⟨by have := (rd_rng m (by omega) X x0 x1).2; rw [← Hrd.out] at this; omega, by have := (rs1_rng m (by omega) X x0 x1).2; rw [← Hs1.out] at this; omega, by have := (rs2_rng m (by omega) X x0 x1).2; rw [← Hs2.out] at this; omega,
        by rw [HI.out]; exact (imm_rng m m1 m2 X x0 x1).1, by rw [HI.out]; exact (imm_rng m m1 m2 X x0 x1).2⟩
      have d : ∀ w p c, Ok w R pc p n c f → Dec w R pc p n c f X m rd s1 s2 I := fun w p c o => by
        have h0 := o.hT.size
        obtain ⟨cm, ct⟩ := LD w p c o
        exact ⟨cm, ct, fun W hW => Decode_v X m x0 x1 m1 m2 hm hmf m rd s1 s2 I ⟨rfl, Hrd.out, Hs1.out, Hs2.out, HI.out⟩ W (o.hT.below hW h0), fun W => rDecode_v X m x0 x1 m1 m2 hm m rd s1 s2 I ⟨rfl, Hrd.out, Hs1.out, Hs2.out, HI.out⟩ W,
          fl.lr, fl.l1, fl.l2, fl.i0, fl.i1⟩
      have erd : (rrg X 128 (fm (kn m) 1)).toNat = rd := by rw [← Hrd.out]; omega
      have es1 : (rrg X 32768 (fm (kn m) 2)).toNat = s1 := by rw [← Hs1.out]; omega
      have es2 : (rrg X 1048576 (fm (kn m) 3)).toNat = s2 := by rw [← Hs2.out]; omega
      simp only []
      rw [if_neg (by decide), erd, es1, es2, ← HI.out]
      by_cases c47 : m = 47
      · subst c47
        exact gCall z fl d
      have era : ra ⟨m, rd, s1, s2, I⟩ = s1 := by unfold ra; exact if_neg (by show ¬ ((m : Int) = 47); omega)
      have erb : rb ⟨m, rd, s1, s2, I⟩ = s2 := by unfold rb; exact if_neg (by show ¬ ((m : Int) = 47); omega)
      rw [era, erb]
      by_cases c1 : m ≤ 4
      · rcases (by omega : m = 1 ∨ m = 2 ∨ m = 3 ∨ m = 4) with rfl | rfl | rfl | rfl
        · exact gLui z fl d
        · exact gAuipc z fl d
        · exact gJal z fl d
        · exact gJalr z fl d
      by_cases c2 : m ≤ 10
      · refine gBranch z fl (by omega) c2 ?_ d
        have := Hrd.out
        rw [rd_branch m (by omega) c2 X x0 x1] at this
        omega
      by_cases c3 : m ≤ 18
      · rcases (by omega : m = 11 ∨ m = 12 ∨ m = 13 ∨ m = 14 ∨ m = 15 ∨ m = 16 ∨ m = 17 ∨ m = 18) with rfl | rfl | rfl | rfl | rfl | rfl | rfl | rfl
        · exact gLoad11 z fl d
        · exact gLoad12 z fl d
        · exact gLoad13 z fl d
        · exact gLoad14 z fl d
        · exact gLoad15 z fl d
        · exact gStore1 z fl d
        · exact gStore2 z fl d
        · exact gStore4 z fl d
      by_cases c4 : m ≤ 27
      · exact gImm z fl (by omega) c4 d
      by_cases c5 : m ≤ 45
      · exact gReg z fl (by omega) c5 d
      rcases (by omega : m = 46 ∨ m = 48) with rfl | rfl
      · exact gFence z fl d
      · exact gBreak z fl d
    · rw [dcdN_none X 48 hnone]
      simp only []
      rw [if_pos (by decide)]
      exact gWord z LD x0 x1 hnone
  · have hfi : ¬ fits n pc 4 = true := fun h => ho ⟨by decide, by rw [← hq]; exact (fits_iff.1 h).2⟩
    rw [if_neg hfi]
    simp only []
    rw [if_pos (by decide)]
    refine gFetch z fun w p c o => ?_
    have h := memLoad_no o 13 q q1 ho
    rw [← hq] at h
    exact h

theorem both {w : World} {R : Nat → Int} {pc : Int} {p : Option Addr} {n c : Nat} {f : Nat → Int} (o : Ok w R pc p n c f) : Both w R pc p n c f := by
  obtain ⟨next, st, ca, ri, rd, v, ai, mi, a, m, data, out, told, _, dd, h⟩ := all o.rng
  obtain ⟨hp, hq⟩ := h w p c o
  exact ⟨next, st, ca, ri, rd, v, ai, mi, a, m, data, out, told, dd, hp, fun W hW => (hq W hW).mono fun e w' ⟨⟨D, p', cap, he, hD, hc, hm, _⟩, hb⟩ => ⟨⟨D, p', cap, he, hD, hc, hm⟩, hb⟩⟩
end Go.Proofs.YtpiohehijkpghaaDoor
