/- Both Steps do the same, of LUI, AUIPC, JAL and JALR. -/
import Derived.Test.YteadfdcnpfkmkaaDoorHartN
import Derived.Test.YteadfdcnpfkmkaaDoorHartI
import Derived.Test.YteadfdcnpfkmkaaDoorHartQA
import Derived.Test.YteadfdcnpfkmkaaDoorHartQC
import Derived.Test.YteadfdcnpfkmkaaDoorHartQE
import Derived.Test.YteadfdcnpfkmkaaDoorHartQG
namespace Go.Proofs.YteadfdcnpfkmkaaDoor
open Go.RowKit
open Hy
set_option linter.unusedVariables false

/-- A word that was fetched, and its instruction. -/
structure Dec (w : World) (R : Nat → Int) (pc : Int) (p : Option Addr) (n c : Nat) (f : Nat → Int) (X M : Int) (rd s1 s2 : Nat) (I : Int) : Prop where
  CLm : ∀ W, Below w.heap.size w W → Calls Tryd.prog 43 #[.slice p n c, .int .i64 13, .int .u32 pc] W fun e w' => e = .returned (.tuple #[.int .u32 X, .bool true]) ∧ w' = W
  CLt : ∀ W, Below w.heap.size w W → Calls Tryd.prog 29 #[.slice p n c, .int .i64 13, .int .u32 pc] W fun e w' => e = .returned (.tuple #[.int .u32 X, .bool true]) ∧ w' = W
  CDm : ∀ W, Below w.heap.size w W → Calls Tryd.prog 8 #[.int .u32 X] W fun e w' => e = .returned (.tuple #[iv M rd s1 s2 I, .bool true]) ∧ Below W.heap.size W w'
  CDt : ∀ W, Calls Tryd.prog 9 #[.int .u32 X] W fun e w' => e = .returned (.tuple #[iv M rd s1 s2 I, .bool true]) ∧ Below W.heap.size W w'
  lr : rd < 32
  l1 : s1 < 32
  l2 : s2 < 32
  i0 : -2147483648 ≤ I
  i1 : I ≤ 2147483647

theorem memLoads {w : World} {R : Nat → Int} {pc : Int} {p : Option Addr} {n c : Nat} {f : Nat → Int} (o : Ok w R pc p n c f) (op A : Int) (a0 : 0 ≤ A) (a1 : A ≤ 4294967295) :
    (∃ V : Int, (op = 13 → 0 ≤ V ∧ V ≤ 4294967295) ∧ (∀ W, Below w.heap.size w W → Calls Tryd.prog 43 #[.slice p n c, .int .i64 op, .int .u32 A] W fun e w' => e = .returned (.tuple #[.int .u32 V, .bool true]) ∧ w' = W) ∧
      (∀ W, Below w.heap.size w W → Calls Tryd.prog 29 #[.slice p n c, .int .i64 op, .int .u32 A] W fun e w' => e = .returned (.tuple #[.int .u32 V, .bool true]) ∧ w' = W)) ∨
    ((∀ W, Below w.heap.size w W → Calls Tryd.prog 43 #[.slice p n c, .int .i64 op, .int .u32 A] W fun e w' => e = .returned (.tuple #[.int .u32 0, .bool false]) ∧ w' = W) ∧
      (∀ W, Below w.heap.size w W → Calls Tryd.prog 29 #[.slice p n c, .int .i64 op, .int .u32 A] W fun e w' => e = .returned (.tuple #[.int .u32 0, .bool false]) ∧ w' = W)) := by
  have hn := o.hn
  obtain ⟨a, rfl⟩ := Int.eq_ofNat_of_zero_le a0
  by_cases ho : 0 < ldn op ∧ (a : Int) % ldn op = 0 ∧ (a : Int) + ldn op ≤ n
  · obtain ⟨m, hm⟩ := Int.eq_ofNat_of_zero_le (show 0 ≤ ldn op by omega)
    have ho' := ho
    rw [hm] at ho'
    obtain ⟨g, q, hp, hc⟩ := o.hm (by omega)
    have hf : ∀ i, i < m → 0 ≤ f (a + i) ∧ f (a + i) ≤ 255 := fun i hi => o.hf _ (by omega)
    refine .inl ⟨ldv op (fun i => f (a + i)), ?_, fun W hW => ?_, fun W hW => ?_⟩
    · rintro rfl
      have h4 : m = 4 := by simp [ldn] at hm; omega
      have := le_rng (fun i => f (a + i)) 4 (by omega) (fun i hi => hf i (by omega))
      have e : ldv 13 (fun i => f (a + i)) = le (fun i => f (a + i)) 4 := rfl
      rw [e]
      have e2 : p256 4 = 4294967296 := rfl
      omega
    · subst hp
      exact Load_any g q n c op a m _ hm (by omega) (by omega) (by omega) (by omega) (by omega) o.hnc W hf (Lies.part (hc.below hW) a m (by omega))
    · subst hp
      exact tLoad_any g q n c op a m _ hm (by omega) (by omega) (by omega) (by omega) (by omega) o.hnc W hf (Lies.part (hc.below hW) a m (by omega))
  · exact .inr ⟨fun W _ => Load_no p n c op a (by omega) (by omega) (by omega) ho W, fun W _ => tLoad_no p n c op a (by omega) (by omega) (by omega) ho W⟩

theorem memStores {w : World} {R : Nat → Int} {pc : Int} {p : Option Addr} {n c : Nat} {f : Nat → Int} (o : Ok w R pc p n c f) (op A B : Int) (K : Nat) (hK : stn op = (K : Int)) (k0 : 0 < K) (a0 : 0 ≤ A) (a1 : A ≤ 4294967295) (b0 : 0 ≤ B) (b1 : B ≤ 4294967295) :
    (∃ a : Nat, A = (a : Int) ∧ a + K ≤ n ∧ (∀ W, Calls Tryd.prog 61 #[.slice p n c, .int .i64 op, .int .u32 A] W fun e w' => e = .returned (.int .u32 K) ∧ w' = W) ∧
      (∀ W, Below w.heap.size w W → Calls Tryd.prog 34 #[.slice p n c, .int .i64 op, .int .u32 A, .int .u32 B] W fun e w' => (∃ h cap, e = .returned (.tuple #[.slice (some ⟨h, 0, none⟩) n cap, .bool true]) ∧ n ≤ cap ∧ Fr w' W.heap.size h n (sto f a B K)) ∧ Below W.heap.size W w')) ∨
    ((∀ W, Calls Tryd.prog 61 #[.slice p n c, .int .i64 op, .int .u32 A] W fun e w' => e = .returned (.int .u32 0) ∧ w' = W) ∧
      (∀ W, Below w.heap.size w W → Calls Tryd.prog 34 #[.slice p n c, .int .i64 op, .int .u32 A, .int .u32 B] W fun e w' => e = .returned (.tuple #[.slice none 0 0, .bool false]) ∧ w' = W)) := by
  have hn := o.hn
  obtain ⟨a, rfl⟩ := Int.eq_ofNat_of_zero_le a0
  by_cases ho : 0 < stn op ∧ (a : Int) % stn op = 0 ∧ (a : Int) + stn op ≤ n
  · have ho' := ho
    rw [hK] at ho'
    obtain ⟨g, q, hp, hc⟩ := o.hm (by omega)
    refine .inl ⟨a, rfl, by omega, fun W => ?_, fun W hW => ?_⟩
    · have h := Stores_yes p n c op a (by omega) (by omega) (by omega) ho W
      rw [hK] at h
      exact h
    · subst hp
      exact tStore_any g q n c op a K B f hK (by omega) (by omega) (by omega) (by omega) (by omega) o.hnc b0 b1 W (hc.below hW)
  · exact .inr ⟨fun W => Stores_no p n c op a (by omega) (by omega) (by omega) ho W, fun W _ => tStore_no p n c op a B (by omega) (by omega) (by omega) ho W⟩

theorem hcs_good (R : Nat → Int) (pc st ca : Int) : True := trivial

set_option maxRecDepth 20000 in
set_option maxHeartbeats 1000000 in
theorem gLui {w : World} {R : Nat → Int} {pc : Int} {p : Option Addr} {n c : Nat} {f : Nat → Int} {X I : Int} {rd s1 s2 : Nat} (o : Ok w R pc p n c f) (d : Dec w R pc p n c f X 1 rd s1 s2 I) : Both w R pc p n c f := by
  have hA := hcs_reg R pc 0 0 s1 d.l1
  have hB := hcs_reg R pc 0 0 s2 d.l2
  have hRd := hcs_reg R pc 0 0 rd d.lr
  obtain ⟨a0, a1⟩ := o.hR s1 d.l1
  obtain ⟨b0, b1⟩ := o.hR s2 d.l2
  have p0 := o.p0
  have p1 := o.p1
  have CO := fun W => rOf_any I W
  have CN := fun W => qsum_any pc 4 p0 p1 (by omega) (by omega) W
  have CT := fun W => qsum_any (R s1) (I % 4294967296) a0 a1 (by omega) (by omega) W
  have hone := fun W => honward_any pc p0 p1 W
  have HF : ∀ W, Calls Tryd.prog 63 #[.int .i64 1, .int .u32 (R s1), .int .u32 (R s2)] W fun e w' => e = .returned (.bool false) ∧ w' = W := fun W => by
    have h := Holds_any 1 (R s1) (R s2) a0 a1 b0 b1 W
    rwa [holds_none _ _ _ (by omega) (by omega) (by omega) (by omega) (by omega) (by omega)] at h
  by_cases h0 : rd = 0
  · have hz : ((rd : Int) != 0) = false := by subst h0; rfl
    have er : (0 : Int) = (rd : Int) := by subst h0; rfl
    have dd : Does n ((pc + 4) % 4294967296) 0 0 0 rd 0 0 0 0 0 0 := ⟨er, rfl, rfl, d.lr, fun _ => rfl, .inl ⟨rfl, rfl⟩, .inl rfl, by omega, by omega⟩
    have CC : ∀ W, Below w.heap.size w W → Calls Tryd.prog 26 #[hv R pc 0 0, .slice p n c] W fun e w' => e = .returned (cv pc ((pc + 4) % 4294967296) 0 0 0 (0) 0 0 0 false 0) ∧ Below W.heap.size W w' := fun W hW => hcRest (hcs R pc 0 0) pc p n c W X I (R s1) (R s2) rd s1 s2 (ccs pc ((pc + 4) % 4294967296) 0 0 0 0 0 0 0 false 0) 1 ((pc + 4) % 4294967296) (I % 4294967296) (by omega) (by omega) rfl hA hB d.l1 d.l2 d.lr ⟨rfl, ones_ccs _ _ _ _ _ _ _ _ _ _ _⟩ (fun W' hW' => d.CLm W' (under hW hW')) (fun W' hW' => d.CDm W' (under hW hW')) (fun W' hW' => hnext_on 1 rd s1 s2 I pc (R s1) (R s2) p0 p1 rfl rfl HF W') (fun W' hW' => hreckon_lui rd s1 s2 I pc (R s1) (R s2) W') (fun W' => by rw [← er]; exact hgive_no pc ((pc + 4) % 4294967296) (I % 4294967296) W')
    have QQ : ∀ W, Below w.heap.size w W → ∀ D, Hid (Did D (ccs pc ((pc + 4) % 4294967296) 0 0 0 (0) 0 0 0 false 0) ((hcs R pc 0 0).setIfInBounds 32 (.int .u32 ((pc + 4) % 4294967296))) p n c) → Calls Tryd.prog 15 #[hv R pc 0 0, .slice p n c] W fun e w' => e = .returned (.agg D) ∧ Below W.heap.size W w' := fun W hW D hD => qLui_0 (hcs R pc 0 0) pc p n c W X I (I % 4294967296) ((pc + 4) % 4294967296) ((R s1 + I % 4294967296) % 4294967296) (R s1) (R s2) (R rd) rd s1 s2 D rfl (hcs_ones _ _ _ _) rfl rfl rfl hA hB hRd d.l1 d.l2 d.lr d.i0 d.i1 hz (fun W' hW' => d.CLt W' (under hW hW')) d.CDt CO CN CT hD
    exact ⟨_, 0, 0, 0, rd, 0, 0, 0, 0, 0, 0, false, 0, dd, stepP o dd CC, stepQ o (by subst h0; rfl) QQ⟩
  · have hz : ((rd : Int) != 0) = true := by simp; omega
    have dd : Does n ((pc + 4) % 4294967296) 0 0 rd rd (I % 4294967296) 0 0 0 0 0 := ⟨rfl, rfl, rfl, d.lr, fun h => absurd h h0, .inl ⟨rfl, rfl⟩, .inl rfl, by omega, by omega⟩
    have CC : ∀ W, Below w.heap.size w W → Calls Tryd.prog 26 #[hv R pc 0 0, .slice p n c] W fun e w' => e = .returned (cv pc ((pc + 4) % 4294967296) 0 0 rd (I % 4294967296) 0 0 0 false 0) ∧ Below W.heap.size W w' := fun W hW => hcRest (hcs R pc 0 0) pc p n c W X I (R s1) (R s2) rd s1 s2 (ccs pc ((pc + 4) % 4294967296) 0 0 rd (I % 4294967296) 0 0 0 false 0) 1 ((pc + 4) % 4294967296) (I % 4294967296) (by omega) (by omega) rfl hA hB d.l1 d.l2 d.lr ⟨rfl, ones_ccs _ _ _ _ _ _ _ _ _ _ _⟩ (fun W' hW' => d.CLm W' (under hW hW')) (fun W' hW' => d.CDm W' (under hW hW')) (fun W' hW' => hnext_on 1 rd s1 s2 I pc (R s1) (R s2) p0 p1 rfl rfl HF W') (fun W' hW' => hreckon_lui rd s1 s2 I pc (R s1) (R s2) W') (fun W' => hgive_yes pc ((pc + 4) % 4294967296) (I % 4294967296) rd hz W')
    have QQ : ∀ W, Below w.heap.size w W → ∀ D, Hid (Did D (ccs pc ((pc + 4) % 4294967296) 0 0 rd (I % 4294967296) 0 0 0 false 0) (((hcs R pc 0 0).setIfInBounds rd (.int .u32 (I % 4294967296))).setIfInBounds 32 (.int .u32 ((pc + 4) % 4294967296))) p n c) → Calls Tryd.prog 15 #[hv R pc 0 0, .slice p n c] W fun e w' => e = .returned (.agg D) ∧ Below W.heap.size W w' := fun W hW D hD => qLui_1 (hcs R pc 0 0) pc p n c W X I (I % 4294967296) ((pc + 4) % 4294967296) ((R s1 + I % 4294967296) % 4294967296) (R s1) (R s2) (R rd) rd s1 s2 D rfl (hcs_ones _ _ _ _) rfl rfl rfl hA hB hRd d.l1 d.l2 d.lr d.i0 d.i1 hz (fun W' hW' => d.CLt W' (under hW hW')) d.CDt CO CN CT hD
    exact ⟨_, 0, 0, rd, rd, _, 0, 0, 0, 0, 0, false, 0, dd, stepP o dd CC, stepQ o (by rw [setRd _ _ _ _ _ _ h0 d.lr]; rfl) QQ⟩

set_option maxRecDepth 20000 in
set_option maxHeartbeats 1000000 in
theorem gAuipc {w : World} {R : Nat → Int} {pc : Int} {p : Option Addr} {n c : Nat} {f : Nat → Int} {X I : Int} {rd s1 s2 : Nat} (o : Ok w R pc p n c f) (d : Dec w R pc p n c f X 2 rd s1 s2 I) : Both w R pc p n c f := by
  have hA := hcs_reg R pc 0 0 s1 d.l1
  have hB := hcs_reg R pc 0 0 s2 d.l2
  have hRd := hcs_reg R pc 0 0 rd d.lr
  obtain ⟨a0, a1⟩ := o.hR s1 d.l1
  obtain ⟨b0, b1⟩ := o.hR s2 d.l2
  have p0 := o.p0
  have p1 := o.p1
  have CO := fun W => rOf_any I W
  have CN := fun W => qsum_any pc 4 p0 p1 (by omega) (by omega) W
  have CT := fun W => qsum_any (R s1) (I % 4294967296) a0 a1 (by omega) (by omega) W
  have hone := fun W => honward_any pc p0 p1 W
  have CS := fun W => qsum_any pc (I % 4294967296) p0 p1 (by omega) (by omega) W
  have HF : ∀ W, Calls Tryd.prog 63 #[.int .i64 2, .int .u32 (R s1), .int .u32 (R s2)] W fun e w' => e = .returned (.bool false) ∧ w' = W := fun W => by
    have h := Holds_any 2 (R s1) (R s2) a0 a1 b0 b1 W
    rwa [holds_none _ _ _ (by omega) (by omega) (by omega) (by omega) (by omega) (by omega)] at h
  by_cases h0 : rd = 0
  · have hz : ((rd : Int) != 0) = false := by subst h0; rfl
    have er : (0 : Int) = (rd : Int) := by subst h0; rfl
    have dd : Does n ((pc + 4) % 4294967296) 0 0 0 rd 0 0 0 0 0 0 := ⟨er, rfl, rfl, d.lr, fun _ => rfl, .inl ⟨rfl, rfl⟩, .inl rfl, by omega, by omega⟩
    have CC : ∀ W, Below w.heap.size w W → Calls Tryd.prog 26 #[hv R pc 0 0, .slice p n c] W fun e w' => e = .returned (cv pc ((pc + 4) % 4294967296) 0 0 0 (0) 0 0 0 false 0) ∧ Below W.heap.size W w' := fun W hW => hcRest (hcs R pc 0 0) pc p n c W X I (R s1) (R s2) rd s1 s2 (ccs pc ((pc + 4) % 4294967296) 0 0 0 0 0 0 0 false 0) 2 ((pc + 4) % 4294967296) ((pc + I % 4294967296) % 4294967296) (by omega) (by omega) rfl hA hB d.l1 d.l2 d.lr ⟨rfl, ones_ccs _ _ _ _ _ _ _ _ _ _ _⟩ (fun W' hW' => d.CLm W' (under hW hW')) (fun W' hW' => d.CDm W' (under hW hW')) (fun W' hW' => hnext_on 2 rd s1 s2 I pc (R s1) (R s2) p0 p1 rfl rfl HF W') (fun W' hW' => hreckon_auipc rd s1 s2 I pc (R s1) (R s2) p0 p1 W') (fun W' => by rw [← er]; exact hgive_no pc ((pc + 4) % 4294967296) ((pc + I % 4294967296) % 4294967296) W')
    have QQ : ∀ W, Below w.heap.size w W → ∀ D, Hid (Did D (ccs pc ((pc + 4) % 4294967296) 0 0 0 (0) 0 0 0 false 0) ((hcs R pc 0 0).setIfInBounds 32 (.int .u32 ((pc + 4) % 4294967296))) p n c) → Calls Tryd.prog 15 #[hv R pc 0 0, .slice p n c] W fun e w' => e = .returned (.agg D) ∧ Below W.heap.size W w' := fun W hW D hD => qAuipc_0 (hcs R pc 0 0) pc p n c W X I (I % 4294967296) ((pc + 4) % 4294967296) ((R s1 + I % 4294967296) % 4294967296) (R s1) (R s2) (R rd) rd s1 s2 D ((pc + I % 4294967296) % 4294967296) rfl (hcs_ones _ _ _ _) rfl rfl rfl hA hB hRd d.l1 d.l2 d.lr d.i0 d.i1 hz (fun W' hW' => d.CLt W' (under hW hW')) d.CDt CO CN CT CS hD
    exact ⟨_, 0, 0, 0, rd, 0, 0, 0, 0, 0, 0, false, 0, dd, stepP o dd CC, stepQ o (by subst h0; rfl) QQ⟩
  · have hz : ((rd : Int) != 0) = true := by simp; omega
    have dd : Does n ((pc + 4) % 4294967296) 0 0 rd rd ((pc + I % 4294967296) % 4294967296) 0 0 0 0 0 := ⟨rfl, rfl, rfl, d.lr, fun h => absurd h h0, .inl ⟨rfl, rfl⟩, .inl rfl, by omega, by omega⟩
    have CC : ∀ W, Below w.heap.size w W → Calls Tryd.prog 26 #[hv R pc 0 0, .slice p n c] W fun e w' => e = .returned (cv pc ((pc + 4) % 4294967296) 0 0 rd ((pc + I % 4294967296) % 4294967296) 0 0 0 false 0) ∧ Below W.heap.size W w' := fun W hW => hcRest (hcs R pc 0 0) pc p n c W X I (R s1) (R s2) rd s1 s2 (ccs pc ((pc + 4) % 4294967296) 0 0 rd ((pc + I % 4294967296) % 4294967296) 0 0 0 false 0) 2 ((pc + 4) % 4294967296) ((pc + I % 4294967296) % 4294967296) (by omega) (by omega) rfl hA hB d.l1 d.l2 d.lr ⟨rfl, ones_ccs _ _ _ _ _ _ _ _ _ _ _⟩ (fun W' hW' => d.CLm W' (under hW hW')) (fun W' hW' => d.CDm W' (under hW hW')) (fun W' hW' => hnext_on 2 rd s1 s2 I pc (R s1) (R s2) p0 p1 rfl rfl HF W') (fun W' hW' => hreckon_auipc rd s1 s2 I pc (R s1) (R s2) p0 p1 W') (fun W' => hgive_yes pc ((pc + 4) % 4294967296) ((pc + I % 4294967296) % 4294967296) rd hz W')
    have QQ : ∀ W, Below w.heap.size w W → ∀ D, Hid (Did D (ccs pc ((pc + 4) % 4294967296) 0 0 rd ((pc + I % 4294967296) % 4294967296) 0 0 0 false 0) (((hcs R pc 0 0).setIfInBounds rd (.int .u32 ((pc + I % 4294967296) % 4294967296))).setIfInBounds 32 (.int .u32 ((pc + 4) % 4294967296))) p n c) → Calls Tryd.prog 15 #[hv R pc 0 0, .slice p n c] W fun e w' => e = .returned (.agg D) ∧ Below W.heap.size W w' := fun W hW D hD => qAuipc_1 (hcs R pc 0 0) pc p n c W X I (I % 4294967296) ((pc + 4) % 4294967296) ((R s1 + I % 4294967296) % 4294967296) (R s1) (R s2) (R rd) rd s1 s2 D ((pc + I % 4294967296) % 4294967296) rfl (hcs_ones _ _ _ _) rfl rfl rfl hA hB hRd d.l1 d.l2 d.lr d.i0 d.i1 hz (fun W' hW' => d.CLt W' (under hW hW')) d.CDt CO CN CT CS hD
    exact ⟨_, 0, 0, rd, rd, _, 0, 0, 0, 0, 0, false, 0, dd, stepP o dd CC, stepQ o (by rw [setRd _ _ _ _ _ _ h0 d.lr]; rfl) QQ⟩

set_option maxRecDepth 20000 in
set_option maxHeartbeats 1000000 in
theorem gJal {w : World} {R : Nat → Int} {pc : Int} {p : Option Addr} {n c : Nat} {f : Nat → Int} {X I : Int} {rd s1 s2 : Nat} (o : Ok w R pc p n c f) (d : Dec w R pc p n c f X 3 rd s1 s2 I) : Both w R pc p n c f := by
  have hA := hcs_reg R pc 0 0 s1 d.l1
  have hB := hcs_reg R pc 0 0 s2 d.l2
  have hRd := hcs_reg R pc 0 0 rd d.lr
  obtain ⟨a0, a1⟩ := o.hR s1 d.l1
  obtain ⟨b0, b1⟩ := o.hR s2 d.l2
  have p0 := o.p0
  have p1 := o.p1
  have CO := fun W => rOf_any I W
  have CN := fun W => qsum_any pc 4 p0 p1 (by omega) (by omega) W
  have CT := fun W => qsum_any (R s1) (I % 4294967296) a0 a1 (by omega) (by omega) W
  have hone := fun W => honward_any pc p0 p1 W
  have CS := fun W => qsum_any pc (I % 4294967296) p0 p1 (by omega) (by omega) W
  by_cases h0 : rd = 0
  · have hz : ((rd : Int) != 0) = false := by subst h0; rfl
    have er : (0 : Int) = (rd : Int) := by subst h0; rfl
    have dd : Does n ((pc + I % 4294967296) % 4294967296) 0 0 0 rd 0 0 0 0 0 0 := ⟨er, rfl, rfl, d.lr, fun _ => rfl, .inl ⟨rfl, rfl⟩, .inl rfl, by omega, by omega⟩
    have CC : ∀ W, Below w.heap.size w W → Calls Tryd.prog 26 #[hv R pc 0 0, .slice p n c] W fun e w' => e = .returned (cv pc ((pc + I % 4294967296) % 4294967296) 0 0 0 (0) 0 0 0 false 0) ∧ Below W.heap.size W w' := fun W hW => hcRest (hcs R pc 0 0) pc p n c W X I (R s1) (R s2) rd s1 s2 (ccs pc ((pc + I % 4294967296) % 4294967296) 0 0 0 0 0 0 0 false 0) 3 ((pc + I % 4294967296) % 4294967296) ((pc + 4) % 4294967296) (by omega) (by omega) rfl hA hB d.l1 d.l2 d.lr ⟨rfl, ones_ccs _ _ _ _ _ _ _ _ _ _ _⟩ (fun W' hW' => d.CLm W' (under hW hW')) (fun W' hW' => d.CDm W' (under hW hW')) (fun W' hW' => hnext_jal rd s1 s2 I pc (R s1) (R s2) p0 p1 W') (fun W' hW' => hreckon_jal rd s1 s2 I pc (R s1) (R s2) p0 p1 W') (fun W' => by rw [← er]; exact hgive_no pc ((pc + I % 4294967296) % 4294967296) ((pc + 4) % 4294967296) W')
    have QQ : ∀ W, Below w.heap.size w W → ∀ D, Hid (Did D (ccs pc ((pc + I % 4294967296) % 4294967296) 0 0 0 (0) 0 0 0 false 0) ((hcs R pc 0 0).setIfInBounds 32 (.int .u32 ((pc + I % 4294967296) % 4294967296))) p n c) → Calls Tryd.prog 15 #[hv R pc 0 0, .slice p n c] W fun e w' => e = .returned (.agg D) ∧ Below W.heap.size W w' := fun W hW D hD => qJal_0 (hcs R pc 0 0) pc p n c W X I (I % 4294967296) ((pc + 4) % 4294967296) ((R s1 + I % 4294967296) % 4294967296) (R s1) (R s2) (R rd) rd s1 s2 D ((pc + I % 4294967296) % 4294967296) rfl (hcs_ones _ _ _ _) rfl rfl rfl hA hB hRd d.l1 d.l2 d.lr d.i0 d.i1 hz (fun W' hW' => d.CLt W' (under hW hW')) d.CDt CO CN CT CS hD
    exact ⟨_, 0, 0, 0, rd, 0, 0, 0, 0, 0, 0, false, 0, dd, stepP o dd CC, stepQ o (by subst h0; rfl) QQ⟩
  · have hz : ((rd : Int) != 0) = true := by simp; omega
    have dd : Does n ((pc + I % 4294967296) % 4294967296) 0 0 rd rd ((pc + 4) % 4294967296) 0 0 0 0 0 := ⟨rfl, rfl, rfl, d.lr, fun h => absurd h h0, .inl ⟨rfl, rfl⟩, .inl rfl, by omega, by omega⟩
    have CC : ∀ W, Below w.heap.size w W → Calls Tryd.prog 26 #[hv R pc 0 0, .slice p n c] W fun e w' => e = .returned (cv pc ((pc + I % 4294967296) % 4294967296) 0 0 rd ((pc + 4) % 4294967296) 0 0 0 false 0) ∧ Below W.heap.size W w' := fun W hW => hcRest (hcs R pc 0 0) pc p n c W X I (R s1) (R s2) rd s1 s2 (ccs pc ((pc + I % 4294967296) % 4294967296) 0 0 rd ((pc + 4) % 4294967296) 0 0 0 false 0) 3 ((pc + I % 4294967296) % 4294967296) ((pc + 4) % 4294967296) (by omega) (by omega) rfl hA hB d.l1 d.l2 d.lr ⟨rfl, ones_ccs _ _ _ _ _ _ _ _ _ _ _⟩ (fun W' hW' => d.CLm W' (under hW hW')) (fun W' hW' => d.CDm W' (under hW hW')) (fun W' hW' => hnext_jal rd s1 s2 I pc (R s1) (R s2) p0 p1 W') (fun W' hW' => hreckon_jal rd s1 s2 I pc (R s1) (R s2) p0 p1 W') (fun W' => hgive_yes pc ((pc + I % 4294967296) % 4294967296) ((pc + 4) % 4294967296) rd hz W')
    have QQ : ∀ W, Below w.heap.size w W → ∀ D, Hid (Did D (ccs pc ((pc + I % 4294967296) % 4294967296) 0 0 rd ((pc + 4) % 4294967296) 0 0 0 false 0) (((hcs R pc 0 0).setIfInBounds rd (.int .u32 ((pc + 4) % 4294967296))).setIfInBounds 32 (.int .u32 ((pc + I % 4294967296) % 4294967296))) p n c) → Calls Tryd.prog 15 #[hv R pc 0 0, .slice p n c] W fun e w' => e = .returned (.agg D) ∧ Below W.heap.size W w' := fun W hW D hD => qJal_1 (hcs R pc 0 0) pc p n c W X I (I % 4294967296) ((pc + 4) % 4294967296) ((R s1 + I % 4294967296) % 4294967296) (R s1) (R s2) (R rd) rd s1 s2 D ((pc + I % 4294967296) % 4294967296) rfl (hcs_ones _ _ _ _) rfl rfl rfl hA hB hRd d.l1 d.l2 d.lr d.i0 d.i1 hz (fun W' hW' => d.CLt W' (under hW hW')) d.CDt CO CN CT CS hD
    exact ⟨_, 0, 0, rd, rd, _, 0, 0, 0, 0, 0, false, 0, dd, stepP o dd CC, stepQ o (by rw [setRd _ _ _ _ _ _ h0 d.lr]; rfl) QQ⟩

set_option maxRecDepth 20000 in
set_option maxHeartbeats 1000000 in
theorem gJalr {w : World} {R : Nat → Int} {pc : Int} {p : Option Addr} {n c : Nat} {f : Nat → Int} {X I : Int} {rd s1 s2 : Nat} (o : Ok w R pc p n c f) (d : Dec w R pc p n c f X 4 rd s1 s2 I) : Both w R pc p n c f := by
  have hA := hcs_reg R pc 0 0 s1 d.l1
  have hB := hcs_reg R pc 0 0 s2 d.l2
  have hRd := hcs_reg R pc 0 0 rd d.lr
  obtain ⟨a0, a1⟩ := o.hR s1 d.l1
  obtain ⟨b0, b1⟩ := o.hR s2 d.l2
  have p0 := o.p0
  have p1 := o.p1
  have CO := fun W => rOf_any I W
  have CN := fun W => qsum_any pc 4 p0 p1 (by omega) (by omega) W
  have CT := fun W => qsum_any (R s1) (I % 4294967296) a0 a1 (by omega) (by omega) W
  have hone := fun W => honward_any pc p0 p1 W
  have HF : ∀ W, Calls Tryd.prog 63 #[.int .i64 4, .int .u32 (R s1), .int .u32 (R s2)] W fun e w' => e = .returned (.bool false) ∧ w' = W := fun W => by
    have h := Holds_any 4 (R s1) (R s2) a0 a1 b0 b1 W
    rwa [holds_none _ _ _ (by omega) (by omega) (by omega) (by omega) (by omega) (by omega)] at h
  by_cases h0 : rd = 0
  · have hz : ((rd : Int) != 0) = false := by subst h0; rfl
    have er : (0 : Int) = (rd : Int) := by subst h0; rfl
    have dd : Does n ((R s1 + I % 4294967296) % 4294967296 - (R s1 + I % 4294967296) % 4294967296 % 2) 0 0 0 rd 0 0 0 0 0 0 := ⟨er, rfl, rfl, d.lr, fun _ => rfl, .inl ⟨rfl, rfl⟩, .inl rfl, by omega, by omega⟩
    have CC : ∀ W, Below w.heap.size w W → Calls Tryd.prog 26 #[hv R pc 0 0, .slice p n c] W fun e w' => e = .returned (cv pc ((R s1 + I % 4294967296) % 4294967296 - (R s1 + I % 4294967296) % 4294967296 % 2) 0 0 0 (0) 0 0 0 false 0) ∧ Below W.heap.size W w' := fun W hW => hcRest (hcs R pc 0 0) pc p n c W X I (R s1) (R s2) rd s1 s2 (ccs pc ((R s1 + I % 4294967296) % 4294967296 - (R s1 + I % 4294967296) % 4294967296 % 2) 0 0 0 0 0 0 0 false 0) 4 ((R s1 + I % 4294967296) % 4294967296 - (R s1 + I % 4294967296) % 4294967296 % 2) ((pc + 4) % 4294967296) (by omega) (by omega) rfl hA hB d.l1 d.l2 d.lr ⟨rfl, ones_ccs _ _ _ _ _ _ _ _ _ _ _⟩ (fun W' hW' => d.CLm W' (under hW hW')) (fun W' hW' => d.CDm W' (under hW hW')) (fun W' hW' => hnext_jalr rd s1 s2 I pc (R s1) (R s2) p0 p1 a0 a1 HF W') (fun W' hW' => hreckon_jalr rd s1 s2 I pc (R s1) (R s2) p0 p1 W') (fun W' => by rw [← er]; exact hgive_no pc ((R s1 + I % 4294967296) % 4294967296 - (R s1 + I % 4294967296) % 4294967296 % 2) ((pc + 4) % 4294967296) W')
    have QQ : ∀ W, Below w.heap.size w W → ∀ D, Hid (Did D (ccs pc ((R s1 + I % 4294967296) % 4294967296 - (R s1 + I % 4294967296) % 4294967296 % 2) 0 0 0 (0) 0 0 0 false 0) ((hcs R pc 0 0).setIfInBounds 32 (.int .u32 ((R s1 + I % 4294967296) % 4294967296 - (R s1 + I % 4294967296) % 4294967296 % 2))) p n c) → Calls Tryd.prog 15 #[hv R pc 0 0, .slice p n c] W fun e w' => e = .returned (.agg D) ∧ Below W.heap.size W w' := fun W hW D hD => qJalr_0 (hcs R pc 0 0) pc p n c W X I (I % 4294967296) ((pc + 4) % 4294967296) ((R s1 + I % 4294967296) % 4294967296) (R s1) (R s2) (R rd) rd s1 s2 D (by omega) (by omega) rfl (hcs_ones _ _ _ _) rfl rfl rfl hA hB hRd d.l1 d.l2 d.lr d.i0 d.i1 hz (fun W' hW' => d.CLt W' (under hW hW')) d.CDt CO CN CT hD
    exact ⟨_, 0, 0, 0, rd, 0, 0, 0, 0, 0, 0, false, 0, dd, stepP o dd CC, stepQ o (by subst h0; rfl) QQ⟩
  · have hz : ((rd : Int) != 0) = true := by simp; omega
    have dd : Does n ((R s1 + I % 4294967296) % 4294967296 - (R s1 + I % 4294967296) % 4294967296 % 2) 0 0 rd rd ((pc + 4) % 4294967296) 0 0 0 0 0 := ⟨rfl, rfl, rfl, d.lr, fun h => absurd h h0, .inl ⟨rfl, rfl⟩, .inl rfl, by omega, by omega⟩
    have CC : ∀ W, Below w.heap.size w W → Calls Tryd.prog 26 #[hv R pc 0 0, .slice p n c] W fun e w' => e = .returned (cv pc ((R s1 + I % 4294967296) % 4294967296 - (R s1 + I % 4294967296) % 4294967296 % 2) 0 0 rd ((pc + 4) % 4294967296) 0 0 0 false 0) ∧ Below W.heap.size W w' := fun W hW => hcRest (hcs R pc 0 0) pc p n c W X I (R s1) (R s2) rd s1 s2 (ccs pc ((R s1 + I % 4294967296) % 4294967296 - (R s1 + I % 4294967296) % 4294967296 % 2) 0 0 rd ((pc + 4) % 4294967296) 0 0 0 false 0) 4 ((R s1 + I % 4294967296) % 4294967296 - (R s1 + I % 4294967296) % 4294967296 % 2) ((pc + 4) % 4294967296) (by omega) (by omega) rfl hA hB d.l1 d.l2 d.lr ⟨rfl, ones_ccs _ _ _ _ _ _ _ _ _ _ _⟩ (fun W' hW' => d.CLm W' (under hW hW')) (fun W' hW' => d.CDm W' (under hW hW')) (fun W' hW' => hnext_jalr rd s1 s2 I pc (R s1) (R s2) p0 p1 a0 a1 HF W') (fun W' hW' => hreckon_jalr rd s1 s2 I pc (R s1) (R s2) p0 p1 W') (fun W' => hgive_yes pc ((R s1 + I % 4294967296) % 4294967296 - (R s1 + I % 4294967296) % 4294967296 % 2) ((pc + 4) % 4294967296) rd hz W')
    have QQ : ∀ W, Below w.heap.size w W → ∀ D, Hid (Did D (ccs pc ((R s1 + I % 4294967296) % 4294967296 - (R s1 + I % 4294967296) % 4294967296 % 2) 0 0 rd ((pc + 4) % 4294967296) 0 0 0 false 0) (((hcs R pc 0 0).setIfInBounds rd (.int .u32 ((pc + 4) % 4294967296))).setIfInBounds 32 (.int .u32 ((R s1 + I % 4294967296) % 4294967296 - (R s1 + I % 4294967296) % 4294967296 % 2))) p n c) → Calls Tryd.prog 15 #[hv R pc 0 0, .slice p n c] W fun e w' => e = .returned (.agg D) ∧ Below W.heap.size W w' := fun W hW D hD => qJalr_1 (hcs R pc 0 0) pc p n c W X I (I % 4294967296) ((pc + 4) % 4294967296) ((R s1 + I % 4294967296) % 4294967296) (R s1) (R s2) (R rd) rd s1 s2 D (by omega) (by omega) rfl (hcs_ones _ _ _ _) rfl rfl rfl hA hB hRd d.l1 d.l2 d.lr d.i0 d.i1 hz (fun W' hW' => d.CLt W' (under hW hW')) d.CDt CO CN CT hD
    exact ⟨_, 0, 0, rd, rd, _, 0, 0, 0, 0, 0, false, 0, dd, stepP o dd CC, stepQ o (by rw [setRd _ _ _ _ _ _ h0 d.lr]; rfl) QQ⟩

end Go.Proofs.YteadfdcnpfkmkaaDoor
namespace Go.Proofs.YteadfdcnpfkmkaaDoor
open Go.RowKit
open Hy
set_option linter.unusedVariables false

theorem itab_branch : ∀ m, m < 11 → 5 ≤ m → itab.getD m 0 = 0 := by decide
theorem itab_imm : ∀ m, m < 28 → 19 ≤ m → itab.getD m 0 = opn m := by decide
theorem itab_reg : ∀ m, m < 46 → 28 ≤ m → itab.getD m 0 = 0 := by decide
theorem opn_nz : ∀ m : Nat, m < 28 → 19 ≤ m → (opn m != 0) = true := by decide

set_option maxRecDepth 20000 in
set_option maxHeartbeats 1000000 in
theorem gBranch {w : World} {R : Nat → Int} {pc : Int} {p : Option Addr} {n c : Nat} {f : Nat → Int} {X I : Int} {rd s1 s2 : Nat} {m : Nat} (o : Ok w R pc p n c f) (m0 : 5 ≤ m) (m1 : m ≤ 10) (h0 : rd = 0) (d : Dec w R pc p n c f X m rd s1 s2 I) : Both w R pc p n c f := by
  have hA := hcs_reg R pc 0 0 s1 d.l1
  have hB := hcs_reg R pc 0 0 s2 d.l2
  have hRd := hcs_reg R pc 0 0 rd d.lr
  obtain ⟨a0, a1⟩ := o.hR s1 d.l1
  obtain ⟨b0, b1⟩ := o.hR s2 d.l2
  have p0 := o.p0
  have p1 := o.p1
  have CO := fun W => rOf_any I W
  have CN := fun W => qsum_any pc 4 p0 p1 (by omega) (by omega) W
  have CT := fun W => qsum_any (R s1) (I % 4294967296) a0 a1 (by omega) (by omega) W
  have hone := fun W => honward_any pc p0 p1 W
  have hrd : (0 : Int) = (rd : Int) := by subst h0; rfl
  have CS := fun W => qsum_any pc (I % 4294967296) p0 p1 (by omega) (by omega) W
  have hti : itab.getD m 0 = 0 := itab_branch m (by omega) m0
  have CAl := fun W => Alu_any m (R s1) (R s2) a0 a1 b0 b1 W
  have hbig := o.hT2.size
  have hH := fun W => Holds_any m (R s1) (R s2) a0 a1 b0 b1 W
  have hrH := fun W => rHolds_any m (R s1) (R s2) a0 a1 b0 b1 W
  cases hb : holds m (R s1) (R s2) with
  | true =>
    rw [hb] at hH hrH
    have dd : Does n ((pc + I % 4294967296) % 4294967296) 0 0 0 rd 0 0 0 0 0 0 := ⟨hrd, rfl, rfl, d.lr, fun _ => rfl, .inl ⟨rfl, rfl⟩, .inl rfl, by omega, by omega⟩
    have CC : ∀ W, Below w.heap.size w W → Calls Tryd.prog 26 #[hv R pc 0 0, .slice p n c] W fun e w' => e = .returned (cv pc ((pc + I % 4294967296) % 4294967296) 0 0 0 (0) 0 0 0 false 0) ∧ Below W.heap.size W w' := fun W hW => hcRest (hcs R pc 0 0) pc p n c W X I (R s1) (R s2) rd s1 s2 (ccs pc ((pc + I % 4294967296) % 4294967296) 0 0 0 0 0 0 0 false 0) m ((pc + I % 4294967296) % 4294967296) (alu m (R s1) (R s2)) (by omega) (by omega) rfl hA hB d.l1 d.l2 d.lr ⟨rfl, ones_ccs _ _ _ _ _ _ _ _ _ _ _⟩ (fun W' hW' => d.CLm W' (under hW hW')) (fun W' hW' => d.CDm W' (under hW hW')) (fun W' hW' => hnext_go m rd s1 s2 I pc (R s1) (R s2) p0 p1 (beq_eq_false_iff_ne.2 (by omega)) hH W') (fun W' hW' => hreckon_reg m rd s1 s2 I pc (R s1) (R s2) (alu m (R s1) (R s2)) m0 (by omega) hti CAl W' (o.hT2.below (under hW hW') hbig)) (fun W' => by rw [← hrd]; exact hgive_no pc ((pc + I % 4294967296) % 4294967296) (alu m (R s1) (R s2)) W')
    have QQ : ∀ W, Below w.heap.size w W → ∀ D, Hid (Did D (ccs pc ((pc + I % 4294967296) % 4294967296) 0 0 0 (0) 0 0 0 false 0) ((hcs R pc 0 0).setIfInBounds 32 (.int .u32 ((pc + I % 4294967296) % 4294967296))) p n c) → Calls Tryd.prog 15 #[hv R pc 0 0, .slice p n c] W fun e w' => e = .returned (.agg D) ∧ Below W.heap.size W w' := fun W hW D hD => qBrY (hcs R pc 0 0) pc p n c W X I (I % 4294967296) ((pc + 4) % 4294967296) ((R s1 + I % 4294967296) % 4294967296) (R s1) (R s2) (R rd) rd s1 s2 D m ((pc + I % 4294967296) % 4294967296) (by omega) (by omega) rfl (hcs_ones _ _ _ _) rfl rfl rfl hA hB hRd d.l1 d.l2 d.lr d.i0 d.i1 (fun W' hW' => d.CLt W' (under hW hW')) d.CDt CO CN CT CS hrH hD
    exact ⟨_, 0, 0, 0, rd, 0, 0, 0, 0, 0, 0, false, 0, dd, stepP o dd CC, stepQ o (by subst h0; rfl) QQ⟩
  | false =>
    rw [hb] at hH hrH
    have dd : Does n ((pc + 4) % 4294967296) 0 0 0 rd 0 0 0 0 0 0 := ⟨hrd, rfl, rfl, d.lr, fun _ => rfl, .inl ⟨rfl, rfl⟩, .inl rfl, by omega, by omega⟩
    have CC : ∀ W, Below w.heap.size w W → Calls Tryd.prog 26 #[hv R pc 0 0, .slice p n c] W fun e w' => e = .returned (cv pc ((pc + 4) % 4294967296) 0 0 0 (0) 0 0 0 false 0) ∧ Below W.heap.size W w' := fun W hW => hcRest (hcs R pc 0 0) pc p n c W X I (R s1) (R s2) rd s1 s2 (ccs pc ((pc + 4) % 4294967296) 0 0 0 0 0 0 0 false 0) m ((pc + 4) % 4294967296) (alu m (R s1) (R s2)) (by omega) (by omega) rfl hA hB d.l1 d.l2 d.lr ⟨rfl, ones_ccs _ _ _ _ _ _ _ _ _ _ _⟩ (fun W' hW' => d.CLm W' (under hW hW')) (fun W' hW' => d.CDm W' (under hW hW')) (fun W' hW' => hnext_on m rd s1 s2 I pc (R s1) (R s2) p0 p1 (beq_eq_false_iff_ne.2 (by omega)) (beq_eq_false_iff_ne.2 (by omega)) hH W') (fun W' hW' => hreckon_reg m rd s1 s2 I pc (R s1) (R s2) (alu m (R s1) (R s2)) m0 (by omega) hti CAl W' (o.hT2.below (under hW hW') hbig)) (fun W' => by rw [← hrd]; exact hgive_no pc ((pc + 4) % 4294967296) (alu m (R s1) (R s2)) W')
    have QQ : ∀ W, Below w.heap.size w W → ∀ D, Hid (Did D (ccs pc ((pc + 4) % 4294967296) 0 0 0 (0) 0 0 0 false 0) ((hcs R pc 0 0).setIfInBounds 32 (.int .u32 ((pc + 4) % 4294967296))) p n c) → Calls Tryd.prog 15 #[hv R pc 0 0, .slice p n c] W fun e w' => e = .returned (.agg D) ∧ Below W.heap.size W w' := fun W hW D hD => qBrN (hcs R pc 0 0) pc p n c W X I (I % 4294967296) ((pc + 4) % 4294967296) ((R s1 + I % 4294967296) % 4294967296) (R s1) (R s2) (R rd) rd s1 s2 D m (by omega) (by omega) rfl (hcs_ones _ _ _ _) rfl rfl rfl hA hB hRd d.l1 d.l2 d.lr d.i0 d.i1 (fun W' hW' => d.CLt W' (under hW hW')) d.CDt CO CN CT hrH hD
    exact ⟨_, 0, 0, 0, rd, 0, 0, 0, 0, 0, 0, false, 0, dd, stepP o dd CC, stepQ o (by subst h0; rfl) QQ⟩

set_option maxRecDepth 20000 in
set_option maxHeartbeats 1000000 in
theorem gImm {w : World} {R : Nat → Int} {pc : Int} {p : Option Addr} {n c : Nat} {f : Nat → Int} {X I : Int} {rd s1 s2 : Nat} {m : Nat} (o : Ok w R pc p n c f) (m0 : 19 ≤ m) (m1 : m ≤ 27) (d : Dec w R pc p n c f X m rd s1 s2 I) : Both w R pc p n c f := by
  have hA := hcs_reg R pc 0 0 s1 d.l1
  have hB := hcs_reg R pc 0 0 s2 d.l2
  have hRd := hcs_reg R pc 0 0 rd d.lr
  obtain ⟨a0, a1⟩ := o.hR s1 d.l1
  obtain ⟨b0, b1⟩ := o.hR s2 d.l2
  have p0 := o.p0
  have p1 := o.p1
  have CO := fun W => rOf_any I W
  have CN := fun W => qsum_any pc 4 p0 p1 (by omega) (by omega) W
  have CT := fun W => qsum_any (R s1) (I % 4294967296) a0 a1 (by omega) (by omega) W
  have hone := fun W => honward_any pc p0 p1 W
  have hbig := o.hT2.size
  have HF : ∀ W, Calls Tryd.prog 63 #[.int .i64 m, .int .u32 (R s1), .int .u32 (R s2)] W fun e w' => e = .returned (.bool false) ∧ w' = W := fun W => by
    have h := Holds_any m (R s1) (R s2) a0 a1 b0 b1 W
    rwa [holds_none _ _ _ (by omega) (by omega) (by omega) (by omega) (by omega) (by omega)] at h
  by_cases h0 : rd = 0
  · have hz : ((rd : Int) != 0) = false := by subst h0; rfl
    have er : (0 : Int) = (rd : Int) := by subst h0; rfl
    have dd : Does n ((pc + 4) % 4294967296) 0 0 0 rd 0 0 0 0 0 0 := ⟨er, rfl, rfl, d.lr, fun _ => rfl, .inl ⟨rfl, rfl⟩, .inl rfl, by omega, by omega⟩
    have CC : ∀ W, Below w.heap.size w W → Calls Tryd.prog 26 #[hv R pc 0 0, .slice p n c] W fun e w' => e = .returned (cv pc ((pc + 4) % 4294967296) 0 0 0 (0) 0 0 0 false 0) ∧ Below W.heap.size W w' := fun W hW => hcRest (hcs R pc 0 0) pc p n c W X I (R s1) (R s2) rd s1 s2 (ccs pc ((pc + 4) % 4294967296) 0 0 0 0 0 0 0 false 0) m ((pc + 4) % 4294967296) (alu (opn m) (R s1) (I % 4294967296)) (by omega) (by omega) rfl hA hB d.l1 d.l2 d.lr ⟨rfl, ones_ccs _ _ _ _ _ _ _ _ _ _ _⟩ (fun W' hW' => d.CLm W' (under hW hW')) (fun W' hW' => d.CDm W' (under hW hW')) (fun W' hW' => hnext_on m rd s1 s2 I pc (R s1) (R s2) p0 p1 (beq_eq_false_iff_ne.2 (by omega)) (beq_eq_false_iff_ne.2 (by omega)) HF W') (fun W' hW' => hreckon_imm m rd s1 s2 I pc (R s1) (R s2) (opn m) (alu (opn m) (R s1) (I % 4294967296)) (by omega) (by omega) (itab_imm m (by omega) m0) (opn_nz m (by omega) m0) (fun W => Alu_any (opn m) (R s1) (I % 4294967296) a0 a1 (by omega) (by omega) W) W' (o.hT2.below (under hW hW') hbig)) (fun W' => by rw [← er]; exact hgive_no pc ((pc + 4) % 4294967296) (alu (opn m) (R s1) (I % 4294967296)) W')
    have QQ : ∀ W, Below w.heap.size w W → ∀ D, Hid (Did D (ccs pc ((pc + 4) % 4294967296) 0 0 0 (0) 0 0 0 false 0) ((hcs R pc 0 0).setIfInBounds 32 (.int .u32 ((pc + 4) % 4294967296))) p n c) → Calls Tryd.prog 15 #[hv R pc 0 0, .slice p n c] W fun e w' => e = .returned (.agg D) ∧ Below W.heap.size W w' := fun W hW D hD => qImm_0 (hcs R pc 0 0) pc p n c W X I (I % 4294967296) ((pc + 4) % 4294967296) ((R s1 + I % 4294967296) % 4294967296) (R s1) (R s2) (R rd) rd s1 s2 D m (alu (opn m) (R s1) (I % 4294967296)) (opn m) (by omega) (by omega) rfl (hcs_ones _ _ _ _) rfl rfl rfl hA hB hRd d.l1 d.l2 d.lr d.i0 d.i1 hz (fun W' hW' => d.CLt W' (under hW hW')) d.CDt CO CN CT (fun W => qoperation_any m W) (fun W => rAlu_any (opn m) (R s1) (I % 4294967296) a0 a1 (by omega) (by omega) W) hD
    exact ⟨_, 0, 0, 0, rd, 0, 0, 0, 0, 0, 0, false, 0, dd, stepP o dd CC, stepQ o (by subst h0; rfl) QQ⟩
  · have hz : ((rd : Int) != 0) = true := by simp; omega
    have dd : Does n ((pc + 4) % 4294967296) 0 0 rd rd (alu (opn m) (R s1) (I % 4294967296)) 0 0 0 0 0 := ⟨rfl, rfl, rfl, d.lr, fun h => absurd h h0, .inl ⟨rfl, rfl⟩, .inl rfl, by omega, by omega⟩
    have CC : ∀ W, Below w.heap.size w W → Calls Tryd.prog 26 #[hv R pc 0 0, .slice p n c] W fun e w' => e = .returned (cv pc ((pc + 4) % 4294967296) 0 0 rd (alu (opn m) (R s1) (I % 4294967296)) 0 0 0 false 0) ∧ Below W.heap.size W w' := fun W hW => hcRest (hcs R pc 0 0) pc p n c W X I (R s1) (R s2) rd s1 s2 (ccs pc ((pc + 4) % 4294967296) 0 0 rd (alu (opn m) (R s1) (I % 4294967296)) 0 0 0 false 0) m ((pc + 4) % 4294967296) (alu (opn m) (R s1) (I % 4294967296)) (by omega) (by omega) rfl hA hB d.l1 d.l2 d.lr ⟨rfl, ones_ccs _ _ _ _ _ _ _ _ _ _ _⟩ (fun W' hW' => d.CLm W' (under hW hW')) (fun W' hW' => d.CDm W' (under hW hW')) (fun W' hW' => hnext_on m rd s1 s2 I pc (R s1) (R s2) p0 p1 (beq_eq_false_iff_ne.2 (by omega)) (beq_eq_false_iff_ne.2 (by omega)) HF W') (fun W' hW' => hreckon_imm m rd s1 s2 I pc (R s1) (R s2) (opn m) (alu (opn m) (R s1) (I % 4294967296)) (by omega) (by omega) (itab_imm m (by omega) m0) (opn_nz m (by omega) m0) (fun W => Alu_any (opn m) (R s1) (I % 4294967296) a0 a1 (by omega) (by omega) W) W' (o.hT2.below (under hW hW') hbig)) (fun W' => hgive_yes pc ((pc + 4) % 4294967296) (alu (opn m) (R s1) (I % 4294967296)) rd hz W')
    have QQ : ∀ W, Below w.heap.size w W → ∀ D, Hid (Did D (ccs pc ((pc + 4) % 4294967296) 0 0 rd (alu (opn m) (R s1) (I % 4294967296)) 0 0 0 false 0) (((hcs R pc 0 0).setIfInBounds rd (.int .u32 (alu (opn m) (R s1) (I % 4294967296)))).setIfInBounds 32 (.int .u32 ((pc + 4) % 4294967296))) p n c) → Calls Tryd.prog 15 #[hv R pc 0 0, .slice p n c] W fun e w' => e = .returned (.agg D) ∧ Below W.heap.size W w' := fun W hW D hD => qImm_1 (hcs R pc 0 0) pc p n c W X I (I % 4294967296) ((pc + 4) % 4294967296) ((R s1 + I % 4294967296) % 4294967296) (R s1) (R s2) (R rd) rd s1 s2 D m (alu (opn m) (R s1) (I % 4294967296)) (opn m) (by omega) (by omega) rfl (hcs_ones _ _ _ _) rfl rfl rfl hA hB hRd d.l1 d.l2 d.lr d.i0 d.i1 hz (fun W' hW' => d.CLt W' (under hW hW')) d.CDt CO CN CT (fun W => qoperation_any m W) (fun W => rAlu_any (opn m) (R s1) (I % 4294967296) a0 a1 (by omega) (by omega) W) hD
    exact ⟨_, 0, 0, rd, rd, _, 0, 0, 0, 0, 0, false, 0, dd, stepP o dd CC, stepQ o (by rw [setRd _ _ _ _ _ _ h0 d.lr]; rfl) QQ⟩

set_option maxRecDepth 20000 in
set_option maxHeartbeats 1000000 in
theorem gReg {w : World} {R : Nat → Int} {pc : Int} {p : Option Addr} {n c : Nat} {f : Nat → Int} {X I : Int} {rd s1 s2 : Nat} {m : Nat} (o : Ok w R pc p n c f) (m0 : 28 ≤ m) (m1 : m ≤ 45) (d : Dec w R pc p n c f X m rd s1 s2 I) : Both w R pc p n c f := by
  have hA := hcs_reg R pc 0 0 s1 d.l1
  have hB := hcs_reg R pc 0 0 s2 d.l2
  have hRd := hcs_reg R pc 0 0 rd d.lr
  obtain ⟨a0, a1⟩ := o.hR s1 d.l1
  obtain ⟨b0, b1⟩ := o.hR s2 d.l2
  have p0 := o.p0
  have p1 := o.p1
  have CO := fun W => rOf_any I W
  have CN := fun W => qsum_any pc 4 p0 p1 (by omega) (by omega) W
  have CT := fun W => qsum_any (R s1) (I % 4294967296) a0 a1 (by omega) (by omega) W
  have hone := fun W => honward_any pc p0 p1 W
  have hbig := o.hT2.size
  have HF : ∀ W, Calls Tryd.prog 63 #[.int .i64 m, .int .u32 (R s1), .int .u32 (R s2)] W fun e w' => e = .returned (.bool false) ∧ w' = W := fun W => by
    have h := Holds_any m (R s1) (R s2) a0 a1 b0 b1 W
    rwa [holds_none _ _ _ (by omega) (by omega) (by omega) (by omega) (by omega) (by omega)] at h
  by_cases h0 : rd = 0
  · have hz : ((rd : Int) != 0) = false := by subst h0; rfl
    have er : (0 : Int) = (rd : Int) := by subst h0; rfl
    have dd : Does n ((pc + 4) % 4294967296) 0 0 0 rd 0 0 0 0 0 0 := ⟨er, rfl, rfl, d.lr, fun _ => rfl, .inl ⟨rfl, rfl⟩, .inl rfl, by omega, by omega⟩
    have CC : ∀ W, Below w.heap.size w W → Calls Tryd.prog 26 #[hv R pc 0 0, .slice p n c] W fun e w' => e = .returned (cv pc ((pc + 4) % 4294967296) 0 0 0 (0) 0 0 0 false 0) ∧ Below W.heap.size W w' := fun W hW => hcRest (hcs R pc 0 0) pc p n c W X I (R s1) (R s2) rd s1 s2 (ccs pc ((pc + 4) % 4294967296) 0 0 0 0 0 0 0 false 0) m ((pc + 4) % 4294967296) (alu m (R s1) (R s2)) (by omega) (by omega) rfl hA hB d.l1 d.l2 d.lr ⟨rfl, ones_ccs _ _ _ _ _ _ _ _ _ _ _⟩ (fun W' hW' => d.CLm W' (under hW hW')) (fun W' hW' => d.CDm W' (under hW hW')) (fun W' hW' => hnext_on m rd s1 s2 I pc (R s1) (R s2) p0 p1 (beq_eq_false_iff_ne.2 (by omega)) (beq_eq_false_iff_ne.2 (by omega)) HF W') (fun W' hW' => hreckon_reg m rd s1 s2 I pc (R s1) (R s2) (alu m (R s1) (R s2)) (by omega) (by omega) (itab_reg m (by omega) m0) (fun W => Alu_any m (R s1) (R s2) a0 a1 b0 b1 W) W' (o.hT2.below (under hW hW') hbig)) (fun W' => by rw [← er]; exact hgive_no pc ((pc + 4) % 4294967296) (alu m (R s1) (R s2)) W')
    have QQ : ∀ W, Below w.heap.size w W → ∀ D, Hid (Did D (ccs pc ((pc + 4) % 4294967296) 0 0 0 (0) 0 0 0 false 0) ((hcs R pc 0 0).setIfInBounds 32 (.int .u32 ((pc + 4) % 4294967296))) p n c) → Calls Tryd.prog 15 #[hv R pc 0 0, .slice p n c] W fun e w' => e = .returned (.agg D) ∧ Below W.heap.size W w' := fun W hW D hD => qReg_0 (hcs R pc 0 0) pc p n c W X I (I % 4294967296) ((pc + 4) % 4294967296) ((R s1 + I % 4294967296) % 4294967296) (R s1) (R s2) (R rd) rd s1 s2 D m (alu m (R s1) (R s2)) (by omega) (by omega) rfl (hcs_ones _ _ _ _) rfl rfl rfl hA hB hRd d.l1 d.l2 d.lr d.i0 d.i1 hz (fun W' hW' => d.CLt W' (under hW hW')) d.CDt CO CN CT (fun W => rAlu_any m (R s1) (R s2) a0 a1 b0 b1 W) hD
    exact ⟨_, 0, 0, 0, rd, 0, 0, 0, 0, 0, 0, false, 0, dd, stepP o dd CC, stepQ o (by subst h0; rfl) QQ⟩
  · have hz : ((rd : Int) != 0) = true := by simp; omega
    have dd : Does n ((pc + 4) % 4294967296) 0 0 rd rd (alu m (R s1) (R s2)) 0 0 0 0 0 := ⟨rfl, rfl, rfl, d.lr, fun h => absurd h h0, .inl ⟨rfl, rfl⟩, .inl rfl, by omega, by omega⟩
    have CC : ∀ W, Below w.heap.size w W → Calls Tryd.prog 26 #[hv R pc 0 0, .slice p n c] W fun e w' => e = .returned (cv pc ((pc + 4) % 4294967296) 0 0 rd (alu m (R s1) (R s2)) 0 0 0 false 0) ∧ Below W.heap.size W w' := fun W hW => hcRest (hcs R pc 0 0) pc p n c W X I (R s1) (R s2) rd s1 s2 (ccs pc ((pc + 4) % 4294967296) 0 0 rd (alu m (R s1) (R s2)) 0 0 0 false 0) m ((pc + 4) % 4294967296) (alu m (R s1) (R s2)) (by omega) (by omega) rfl hA hB d.l1 d.l2 d.lr ⟨rfl, ones_ccs _ _ _ _ _ _ _ _ _ _ _⟩ (fun W' hW' => d.CLm W' (under hW hW')) (fun W' hW' => d.CDm W' (under hW hW')) (fun W' hW' => hnext_on m rd s1 s2 I pc (R s1) (R s2) p0 p1 (beq_eq_false_iff_ne.2 (by omega)) (beq_eq_false_iff_ne.2 (by omega)) HF W') (fun W' hW' => hreckon_reg m rd s1 s2 I pc (R s1) (R s2) (alu m (R s1) (R s2)) (by omega) (by omega) (itab_reg m (by omega) m0) (fun W => Alu_any m (R s1) (R s2) a0 a1 b0 b1 W) W' (o.hT2.below (under hW hW') hbig)) (fun W' => hgive_yes pc ((pc + 4) % 4294967296) (alu m (R s1) (R s2)) rd hz W')
    have QQ : ∀ W, Below w.heap.size w W → ∀ D, Hid (Did D (ccs pc ((pc + 4) % 4294967296) 0 0 rd (alu m (R s1) (R s2)) 0 0 0 false 0) (((hcs R pc 0 0).setIfInBounds rd (.int .u32 (alu m (R s1) (R s2)))).setIfInBounds 32 (.int .u32 ((pc + 4) % 4294967296))) p n c) → Calls Tryd.prog 15 #[hv R pc 0 0, .slice p n c] W fun e w' => e = .returned (.agg D) ∧ Below W.heap.size W w' := fun W hW D hD => qReg_1 (hcs R pc 0 0) pc p n c W X I (I % 4294967296) ((pc + 4) % 4294967296) ((R s1 + I % 4294967296) % 4294967296) (R s1) (R s2) (R rd) rd s1 s2 D m (alu m (R s1) (R s2)) (by omega) (by omega) rfl (hcs_ones _ _ _ _) rfl rfl rfl hA hB hRd d.l1 d.l2 d.lr d.i0 d.i1 hz (fun W' hW' => d.CLt W' (under hW hW')) d.CDt CO CN CT (fun W => rAlu_any m (R s1) (R s2) a0 a1 b0 b1 W) hD
    exact ⟨_, 0, 0, rd, rd, _, 0, 0, 0, 0, 0, false, 0, dd, stepP o dd CC, stepQ o (by rw [setRd _ _ _ _ _ _ h0 d.lr]; rfl) QQ⟩

end Go.Proofs.YteadfdcnpfkmkaaDoor
namespace Go.Proofs.YteadfdcnpfkmkaaDoor
open Go.RowKit
open Hy
set_option linter.unusedVariables false

set_option maxRecDepth 20000 in
set_option maxHeartbeats 1000000 in
theorem gLoad11 {w : World} {R : Nat → Int} {pc : Int} {p : Option Addr} {n c : Nat} {f : Nat → Int} {X I : Int} {rd s1 s2 : Nat} (o : Ok w R pc p n c f) (d : Dec w R pc p n c f X 11 rd s1 s2 I) : Both w R pc p n c f := by
  have hA := hcs_reg R pc 0 0 s1 d.l1
  have hB := hcs_reg R pc 0 0 s2 d.l2
  have hRd := hcs_reg R pc 0 0 rd d.lr
  obtain ⟨a0, a1⟩ := o.hR s1 d.l1
  obtain ⟨b0, b1⟩ := o.hR s2 d.l2
  have p0 := o.p0
  have p1 := o.p1
  have CO := fun W => rOf_any I W
  have CN := fun W => qsum_any pc 4 p0 p1 (by omega) (by omega) W
  have CT := fun W => qsum_any (R s1) (I % 4294967296) a0 a1 (by omega) (by omega) W
  have hone := fun W => honward_any pc p0 p1 W
  have eTH : (R s1 + I % 4294967296) % 4294967296 = (R s1 + I) % 4294967296 := by omega
  have CT' : ∀ W, Calls Tryd.prog 32 #[.int .u32 (R s1), .int .u32 (I % 4294967296)] W fun e w' => e = .returned (.int .u32 ((R s1 + I) % 4294967296)) ∧ w' = W := fun W => by rw [← eTH]; exact CT W
  rcases memLoads o 11 ((R s1 + I) % 4294967296) (by omega) (by omega) with ⟨V, _, cm, ct⟩ | ⟨cm, ct⟩
  · by_cases h0 : rd = 0
    · have hz : ((rd : Int) != 0) = false := by subst h0; rfl
      have er : (0 : Int) = (rd : Int) := by subst h0; rfl
      have dd : Does n ((pc + 4) % 4294967296) 0 0 0 rd 0 0 0 0 0 0 := ⟨er, rfl, rfl, d.lr, fun _ => rfl, .inl ⟨rfl, rfl⟩, .inl rfl, by omega, by omega⟩
      have CC : ∀ W, Below w.heap.size w W → Calls Tryd.prog 26 #[hv R pc 0 0, .slice p n c] W fun e w' => e = .returned (cv pc ((pc + 4) % 4294967296) 0 0 0 (0) 0 0 0 false 0) ∧ Below W.heap.size W w' := fun W hW => hcLoad11 (hcs R pc 0 0) pc p n c W X I (R s1) (R s2) rd s1 s2 (ccs pc ((pc + 4) % 4294967296) 0 0 0 0 0 0 0 false 0) rfl hA hB d.l1 d.l2 d.lr ⟨rfl, ones_ccs _ _ _ _ _ _ _ _ _ _ _⟩ (fun W' hW' => d.CLm W' (under hW hW')) (fun W' hW' => d.CDm W' (under hW hW')) (fun W' hW' => hload_yes 11 I pc (R s1) V ((pc + 4) % 4294967296) rd s1 s2 (.bool true) p n c a0 a1 W' (fun W'' hW'' => cm W'' (under (under hW hW') hW'')) hone 0 0 (fun W'' => by rw [← er]; exact hgive_no pc ((pc + 4) % 4294967296) V W''))
      have QQ : ∀ W, Below w.heap.size w W → ∀ D, Hid (Did D (ccs pc ((pc + 4) % 4294967296) 0 0 0 (0) 0 0 0 false 0) ((hcs R pc 0 0).setIfInBounds 32 (.int .u32 ((pc + 4) % 4294967296))) p n c) → Calls Tryd.prog 15 #[hv R pc 0 0, .slice p n c] W fun e w' => e = .returned (.agg D) ∧ Below W.heap.size W w' := fun W hW D hD => qLoad_0 (hcs R pc 0 0) pc p n c W X I (I % 4294967296) ((pc + 4) % 4294967296) ((R s1 + I) % 4294967296) (R s1) (R s2) (R rd) rd s1 s2 D 11 V (by omega) (by omega) rfl (hcs_ones _ _ _ _) rfl rfl rfl hA hB hRd d.l1 d.l2 d.lr d.i0 d.i1 hz (fun W' hW' => d.CLt W' (under hW hW')) d.CDt CO CN CT' (fun W' hW' => ct W' (under hW hW')) hD
      exact ⟨_, 0, 0, 0, rd, 0, 0, 0, 0, 0, 0, false, 0, dd, stepP o dd CC, stepQ o (by subst h0; rfl) QQ⟩
    · have hz : ((rd : Int) != 0) = true := by simp; omega
      have dd : Does n ((pc + 4) % 4294967296) 0 0 rd rd V 0 0 0 0 0 := ⟨rfl, rfl, rfl, d.lr, fun h => absurd h h0, .inl ⟨rfl, rfl⟩, .inl rfl, by omega, by omega⟩
      have CC : ∀ W, Below w.heap.size w W → Calls Tryd.prog 26 #[hv R pc 0 0, .slice p n c] W fun e w' => e = .returned (cv pc ((pc + 4) % 4294967296) 0 0 rd (V) 0 0 0 false 0) ∧ Below W.heap.size W w' := fun W hW => hcLoad11 (hcs R pc 0 0) pc p n c W X I (R s1) (R s2) rd s1 s2 (ccs pc ((pc + 4) % 4294967296) 0 0 rd V 0 0 0 false 0) rfl hA hB d.l1 d.l2 d.lr ⟨rfl, ones_ccs _ _ _ _ _ _ _ _ _ _ _⟩ (fun W' hW' => d.CLm W' (under hW hW')) (fun W' hW' => d.CDm W' (under hW hW')) (fun W' hW' => hload_yes 11 I pc (R s1) V ((pc + 4) % 4294967296) rd s1 s2 (.bool true) p n c a0 a1 W' (fun W'' hW'' => cm W'' (under (under hW hW') hW'')) hone rd V (fun W'' => hgive_yes pc ((pc + 4) % 4294967296) V rd hz W''))
      have QQ : ∀ W, Below w.heap.size w W → ∀ D, Hid (Did D (ccs pc ((pc + 4) % 4294967296) 0 0 rd (V) 0 0 0 false 0) (((hcs R pc 0 0).setIfInBounds rd (.int .u32 V)).setIfInBounds 32 (.int .u32 ((pc + 4) % 4294967296))) p n c) → Calls Tryd.prog 15 #[hv R pc 0 0, .slice p n c] W fun e w' => e = .returned (.agg D) ∧ Below W.heap.size W w' := fun W hW D hD => qLoad_1 (hcs R pc 0 0) pc p n c W X I (I % 4294967296) ((pc + 4) % 4294967296) ((R s1 + I) % 4294967296) (R s1) (R s2) (R rd) rd s1 s2 D 11 V (by omega) (by omega) rfl (hcs_ones _ _ _ _) rfl rfl rfl hA hB hRd d.l1 d.l2 d.lr d.i0 d.i1 hz (fun W' hW' => d.CLt W' (under hW hW')) d.CDt CO CN CT' (fun W' hW' => ct W' (under hW hW')) hD
      exact ⟨_, 0, 0, rd, rd, _, 0, 0, 0, 0, 0, false, 0, dd, stepP o dd CC, stepQ o (by rw [setRd _ _ _ _ _ _ h0 d.lr]; rfl) QQ⟩
  · have dd : Does n pc 2 3 0 0 0 0 0 0 0 0 := ⟨rfl, rfl, rfl, by omega, fun _ => rfl, .inr (.inr ⟨rfl, by omega, by omega⟩), .inl rfl, by omega, by omega⟩
    have CC : ∀ W, Below w.heap.size w W → Calls Tryd.prog 26 #[hv R pc 0 0, .slice p n c] W fun e w' => e = .returned (cv pc pc 2 3 0 0 0 0 0 false 0) ∧ Below W.heap.size W w' := fun W hW => hcLoad11 (hcs R pc 0 0) pc p n c W X I (R s1) (R s2) rd s1 s2 (ccs pc pc 2 3 0 0 0 0 0 false 0) rfl hA hB d.l1 d.l2 d.lr ⟨rfl, ones_ccs _ _ _ _ _ _ _ _ _ _ _⟩ (fun W' hW' => d.CLm W' (under hW hW')) (fun W' hW' => d.CDm W' (under hW hW')) (fun W' hW' => hload_no 11 rd s1 s2 I pc (R s1) 0 p n c a0 a1 W' (fun W'' hW'' => cm W'' (under (under hW hW') hW'')))
    have QQ : ∀ W, Below w.heap.size w W → ∀ D, Hid (Did D (ccs pc pc 2 3 0 0 0 0 0 false 0) (((hcs R pc 0 0).setIfInBounds 33 (.int .i64 2)).setIfInBounds 34 (.int .i64 3)) p n c) → Calls Tryd.prog 15 #[hv R pc 0 0, .slice p n c] W fun e w' => e = .returned (.agg D) ∧ Below W.heap.size W w' := fun W hW D hD => qLoadX (hcs R pc 0 0) pc p n c W X I (I % 4294967296) ((pc + 4) % 4294967296) ((R s1 + I) % 4294967296) (R s1) (R s2) (R rd) rd s1 s2 D 11 0 (by omega) (by omega) rfl (hcs_ones _ _ _ _) rfl rfl rfl hA hB hRd d.l1 d.l2 d.lr d.i0 d.i1 (fun W' hW' => d.CLt W' (under hW hW')) d.CDt CO CN CT' (fun W' hW' => ct W' (under hW hW')) (fun W' => qtrap_any (hcs R pc 0 0) pc 3 p n c W' rfl (hcs_ones _ _ _ _) rfl ⟨_, rfl⟩ ⟨_, rfl⟩ D hD) hD
    exact ⟨_, 2, _, 0, 0, 0, 0, 0, 0, 0, 0, false, 0, dd, stepP o dd CC, stepQ o rfl QQ⟩

set_option maxRecDepth 20000 in
set_option maxHeartbeats 1000000 in
theorem gLoad12 {w : World} {R : Nat → Int} {pc : Int} {p : Option Addr} {n c : Nat} {f : Nat → Int} {X I : Int} {rd s1 s2 : Nat} (o : Ok w R pc p n c f) (d : Dec w R pc p n c f X 12 rd s1 s2 I) : Both w R pc p n c f := by
  have hA := hcs_reg R pc 0 0 s1 d.l1
  have hB := hcs_reg R pc 0 0 s2 d.l2
  have hRd := hcs_reg R pc 0 0 rd d.lr
  obtain ⟨a0, a1⟩ := o.hR s1 d.l1
  obtain ⟨b0, b1⟩ := o.hR s2 d.l2
  have p0 := o.p0
  have p1 := o.p1
  have CO := fun W => rOf_any I W
  have CN := fun W => qsum_any pc 4 p0 p1 (by omega) (by omega) W
  have CT := fun W => qsum_any (R s1) (I % 4294967296) a0 a1 (by omega) (by omega) W
  have hone := fun W => honward_any pc p0 p1 W
  have eTH : (R s1 + I % 4294967296) % 4294967296 = (R s1 + I) % 4294967296 := by omega
  have CT' : ∀ W, Calls Tryd.prog 32 #[.int .u32 (R s1), .int .u32 (I % 4294967296)] W fun e w' => e = .returned (.int .u32 ((R s1 + I) % 4294967296)) ∧ w' = W := fun W => by rw [← eTH]; exact CT W
  rcases memLoads o 12 ((R s1 + I) % 4294967296) (by omega) (by omega) with ⟨V, _, cm, ct⟩ | ⟨cm, ct⟩
  · by_cases h0 : rd = 0
    · have hz : ((rd : Int) != 0) = false := by subst h0; rfl
      have er : (0 : Int) = (rd : Int) := by subst h0; rfl
      have dd : Does n ((pc + 4) % 4294967296) 0 0 0 rd 0 0 0 0 0 0 := ⟨er, rfl, rfl, d.lr, fun _ => rfl, .inl ⟨rfl, rfl⟩, .inl rfl, by omega, by omega⟩
      have CC : ∀ W, Below w.heap.size w W → Calls Tryd.prog 26 #[hv R pc 0 0, .slice p n c] W fun e w' => e = .returned (cv pc ((pc + 4) % 4294967296) 0 0 0 (0) 0 0 0 false 0) ∧ Below W.heap.size W w' := fun W hW => hcLoad12 (hcs R pc 0 0) pc p n c W X I (R s1) (R s2) rd s1 s2 (ccs pc ((pc + 4) % 4294967296) 0 0 0 0 0 0 0 false 0) rfl hA hB d.l1 d.l2 d.lr ⟨rfl, ones_ccs _ _ _ _ _ _ _ _ _ _ _⟩ (fun W' hW' => d.CLm W' (under hW hW')) (fun W' hW' => d.CDm W' (under hW hW')) (fun W' hW' => hload_yes 12 I pc (R s1) V ((pc + 4) % 4294967296) rd s1 s2 (.bool true) p n c a0 a1 W' (fun W'' hW'' => cm W'' (under (under hW hW') hW'')) hone 0 0 (fun W'' => by rw [← er]; exact hgive_no pc ((pc + 4) % 4294967296) V W''))
      have QQ : ∀ W, Below w.heap.size w W → ∀ D, Hid (Did D (ccs pc ((pc + 4) % 4294967296) 0 0 0 (0) 0 0 0 false 0) ((hcs R pc 0 0).setIfInBounds 32 (.int .u32 ((pc + 4) % 4294967296))) p n c) → Calls Tryd.prog 15 #[hv R pc 0 0, .slice p n c] W fun e w' => e = .returned (.agg D) ∧ Below W.heap.size W w' := fun W hW D hD => qLoad_0 (hcs R pc 0 0) pc p n c W X I (I % 4294967296) ((pc + 4) % 4294967296) ((R s1 + I) % 4294967296) (R s1) (R s2) (R rd) rd s1 s2 D 12 V (by omega) (by omega) rfl (hcs_ones _ _ _ _) rfl rfl rfl hA hB hRd d.l1 d.l2 d.lr d.i0 d.i1 hz (fun W' hW' => d.CLt W' (under hW hW')) d.CDt CO CN CT' (fun W' hW' => ct W' (under hW hW')) hD
      exact ⟨_, 0, 0, 0, rd, 0, 0, 0, 0, 0, 0, false, 0, dd, stepP o dd CC, stepQ o (by subst h0; rfl) QQ⟩
    · have hz : ((rd : Int) != 0) = true := by simp; omega
      have dd : Does n ((pc + 4) % 4294967296) 0 0 rd rd V 0 0 0 0 0 := ⟨rfl, rfl, rfl, d.lr, fun h => absurd h h0, .inl ⟨rfl, rfl⟩, .inl rfl, by omega, by omega⟩
      have CC : ∀ W, Below w.heap.size w W → Calls Tryd.prog 26 #[hv R pc 0 0, .slice p n c] W fun e w' => e = .returned (cv pc ((pc + 4) % 4294967296) 0 0 rd (V) 0 0 0 false 0) ∧ Below W.heap.size W w' := fun W hW => hcLoad12 (hcs R pc 0 0) pc p n c W X I (R s1) (R s2) rd s1 s2 (ccs pc ((pc + 4) % 4294967296) 0 0 rd V 0 0 0 false 0) rfl hA hB d.l1 d.l2 d.lr ⟨rfl, ones_ccs _ _ _ _ _ _ _ _ _ _ _⟩ (fun W' hW' => d.CLm W' (under hW hW')) (fun W' hW' => d.CDm W' (under hW hW')) (fun W' hW' => hload_yes 12 I pc (R s1) V ((pc + 4) % 4294967296) rd s1 s2 (.bool true) p n c a0 a1 W' (fun W'' hW'' => cm W'' (under (under hW hW') hW'')) hone rd V (fun W'' => hgive_yes pc ((pc + 4) % 4294967296) V rd hz W''))
      have QQ : ∀ W, Below w.heap.size w W → ∀ D, Hid (Did D (ccs pc ((pc + 4) % 4294967296) 0 0 rd (V) 0 0 0 false 0) (((hcs R pc 0 0).setIfInBounds rd (.int .u32 V)).setIfInBounds 32 (.int .u32 ((pc + 4) % 4294967296))) p n c) → Calls Tryd.prog 15 #[hv R pc 0 0, .slice p n c] W fun e w' => e = .returned (.agg D) ∧ Below W.heap.size W w' := fun W hW D hD => qLoad_1 (hcs R pc 0 0) pc p n c W X I (I % 4294967296) ((pc + 4) % 4294967296) ((R s1 + I) % 4294967296) (R s1) (R s2) (R rd) rd s1 s2 D 12 V (by omega) (by omega) rfl (hcs_ones _ _ _ _) rfl rfl rfl hA hB hRd d.l1 d.l2 d.lr d.i0 d.i1 hz (fun W' hW' => d.CLt W' (under hW hW')) d.CDt CO CN CT' (fun W' hW' => ct W' (under hW hW')) hD
      exact ⟨_, 0, 0, rd, rd, _, 0, 0, 0, 0, 0, false, 0, dd, stepP o dd CC, stepQ o (by rw [setRd _ _ _ _ _ _ h0 d.lr]; rfl) QQ⟩
  · have dd : Does n pc 2 3 0 0 0 0 0 0 0 0 := ⟨rfl, rfl, rfl, by omega, fun _ => rfl, .inr (.inr ⟨rfl, by omega, by omega⟩), .inl rfl, by omega, by omega⟩
    have CC : ∀ W, Below w.heap.size w W → Calls Tryd.prog 26 #[hv R pc 0 0, .slice p n c] W fun e w' => e = .returned (cv pc pc 2 3 0 0 0 0 0 false 0) ∧ Below W.heap.size W w' := fun W hW => hcLoad12 (hcs R pc 0 0) pc p n c W X I (R s1) (R s2) rd s1 s2 (ccs pc pc 2 3 0 0 0 0 0 false 0) rfl hA hB d.l1 d.l2 d.lr ⟨rfl, ones_ccs _ _ _ _ _ _ _ _ _ _ _⟩ (fun W' hW' => d.CLm W' (under hW hW')) (fun W' hW' => d.CDm W' (under hW hW')) (fun W' hW' => hload_no 12 rd s1 s2 I pc (R s1) 0 p n c a0 a1 W' (fun W'' hW'' => cm W'' (under (under hW hW') hW'')))
    have QQ : ∀ W, Below w.heap.size w W → ∀ D, Hid (Did D (ccs pc pc 2 3 0 0 0 0 0 false 0) (((hcs R pc 0 0).setIfInBounds 33 (.int .i64 2)).setIfInBounds 34 (.int .i64 3)) p n c) → Calls Tryd.prog 15 #[hv R pc 0 0, .slice p n c] W fun e w' => e = .returned (.agg D) ∧ Below W.heap.size W w' := fun W hW D hD => qLoadX (hcs R pc 0 0) pc p n c W X I (I % 4294967296) ((pc + 4) % 4294967296) ((R s1 + I) % 4294967296) (R s1) (R s2) (R rd) rd s1 s2 D 12 0 (by omega) (by omega) rfl (hcs_ones _ _ _ _) rfl rfl rfl hA hB hRd d.l1 d.l2 d.lr d.i0 d.i1 (fun W' hW' => d.CLt W' (under hW hW')) d.CDt CO CN CT' (fun W' hW' => ct W' (under hW hW')) (fun W' => qtrap_any (hcs R pc 0 0) pc 3 p n c W' rfl (hcs_ones _ _ _ _) rfl ⟨_, rfl⟩ ⟨_, rfl⟩ D hD) hD
    exact ⟨_, 2, _, 0, 0, 0, 0, 0, 0, 0, 0, false, 0, dd, stepP o dd CC, stepQ o rfl QQ⟩

set_option maxRecDepth 20000 in
set_option maxHeartbeats 1000000 in
theorem gLoad13 {w : World} {R : Nat → Int} {pc : Int} {p : Option Addr} {n c : Nat} {f : Nat → Int} {X I : Int} {rd s1 s2 : Nat} (o : Ok w R pc p n c f) (d : Dec w R pc p n c f X 13 rd s1 s2 I) : Both w R pc p n c f := by
  have hA := hcs_reg R pc 0 0 s1 d.l1
  have hB := hcs_reg R pc 0 0 s2 d.l2
  have hRd := hcs_reg R pc 0 0 rd d.lr
  obtain ⟨a0, a1⟩ := o.hR s1 d.l1
  obtain ⟨b0, b1⟩ := o.hR s2 d.l2
  have p0 := o.p0
  have p1 := o.p1
  have CO := fun W => rOf_any I W
  have CN := fun W => qsum_any pc 4 p0 p1 (by omega) (by omega) W
  have CT := fun W => qsum_any (R s1) (I % 4294967296) a0 a1 (by omega) (by omega) W
  have hone := fun W => honward_any pc p0 p1 W
  have eTH : (R s1 + I % 4294967296) % 4294967296 = (R s1 + I) % 4294967296 := by omega
  have CT' : ∀ W, Calls Tryd.prog 32 #[.int .u32 (R s1), .int .u32 (I % 4294967296)] W fun e w' => e = .returned (.int .u32 ((R s1 + I) % 4294967296)) ∧ w' = W := fun W => by rw [← eTH]; exact CT W
  rcases memLoads o 13 ((R s1 + I) % 4294967296) (by omega) (by omega) with ⟨V, _, cm, ct⟩ | ⟨cm, ct⟩
  · by_cases h0 : rd = 0
    · have hz : ((rd : Int) != 0) = false := by subst h0; rfl
      have er : (0 : Int) = (rd : Int) := by subst h0; rfl
      have dd : Does n ((pc + 4) % 4294967296) 0 0 0 rd 0 0 0 0 0 0 := ⟨er, rfl, rfl, d.lr, fun _ => rfl, .inl ⟨rfl, rfl⟩, .inl rfl, by omega, by omega⟩
      have CC : ∀ W, Below w.heap.size w W → Calls Tryd.prog 26 #[hv R pc 0 0, .slice p n c] W fun e w' => e = .returned (cv pc ((pc + 4) % 4294967296) 0 0 0 (0) 0 0 0 false 0) ∧ Below W.heap.size W w' := fun W hW => hcLoad13 (hcs R pc 0 0) pc p n c W X I (R s1) (R s2) rd s1 s2 (ccs pc ((pc + 4) % 4294967296) 0 0 0 0 0 0 0 false 0) rfl hA hB d.l1 d.l2 d.lr ⟨rfl, ones_ccs _ _ _ _ _ _ _ _ _ _ _⟩ (fun W' hW' => d.CLm W' (under hW hW')) (fun W' hW' => d.CDm W' (under hW hW')) (fun W' hW' => hload_yes 13 I pc (R s1) V ((pc + 4) % 4294967296) rd s1 s2 (.bool true) p n c a0 a1 W' (fun W'' hW'' => cm W'' (under (under hW hW') hW'')) hone 0 0 (fun W'' => by rw [← er]; exact hgive_no pc ((pc + 4) % 4294967296) V W''))
      have QQ : ∀ W, Below w.heap.size w W → ∀ D, Hid (Did D (ccs pc ((pc + 4) % 4294967296) 0 0 0 (0) 0 0 0 false 0) ((hcs R pc 0 0).setIfInBounds 32 (.int .u32 ((pc + 4) % 4294967296))) p n c) → Calls Tryd.prog 15 #[hv R pc 0 0, .slice p n c] W fun e w' => e = .returned (.agg D) ∧ Below W.heap.size W w' := fun W hW D hD => qLoad_0 (hcs R pc 0 0) pc p n c W X I (I % 4294967296) ((pc + 4) % 4294967296) ((R s1 + I) % 4294967296) (R s1) (R s2) (R rd) rd s1 s2 D 13 V (by omega) (by omega) rfl (hcs_ones _ _ _ _) rfl rfl rfl hA hB hRd d.l1 d.l2 d.lr d.i0 d.i1 hz (fun W' hW' => d.CLt W' (under hW hW')) d.CDt CO CN CT' (fun W' hW' => ct W' (under hW hW')) hD
      exact ⟨_, 0, 0, 0, rd, 0, 0, 0, 0, 0, 0, false, 0, dd, stepP o dd CC, stepQ o (by subst h0; rfl) QQ⟩
    · have hz : ((rd : Int) != 0) = true := by simp; omega
      have dd : Does n ((pc + 4) % 4294967296) 0 0 rd rd V 0 0 0 0 0 := ⟨rfl, rfl, rfl, d.lr, fun h => absurd h h0, .inl ⟨rfl, rfl⟩, .inl rfl, by omega, by omega⟩
      have CC : ∀ W, Below w.heap.size w W → Calls Tryd.prog 26 #[hv R pc 0 0, .slice p n c] W fun e w' => e = .returned (cv pc ((pc + 4) % 4294967296) 0 0 rd (V) 0 0 0 false 0) ∧ Below W.heap.size W w' := fun W hW => hcLoad13 (hcs R pc 0 0) pc p n c W X I (R s1) (R s2) rd s1 s2 (ccs pc ((pc + 4) % 4294967296) 0 0 rd V 0 0 0 false 0) rfl hA hB d.l1 d.l2 d.lr ⟨rfl, ones_ccs _ _ _ _ _ _ _ _ _ _ _⟩ (fun W' hW' => d.CLm W' (under hW hW')) (fun W' hW' => d.CDm W' (under hW hW')) (fun W' hW' => hload_yes 13 I pc (R s1) V ((pc + 4) % 4294967296) rd s1 s2 (.bool true) p n c a0 a1 W' (fun W'' hW'' => cm W'' (under (under hW hW') hW'')) hone rd V (fun W'' => hgive_yes pc ((pc + 4) % 4294967296) V rd hz W''))
      have QQ : ∀ W, Below w.heap.size w W → ∀ D, Hid (Did D (ccs pc ((pc + 4) % 4294967296) 0 0 rd (V) 0 0 0 false 0) (((hcs R pc 0 0).setIfInBounds rd (.int .u32 V)).setIfInBounds 32 (.int .u32 ((pc + 4) % 4294967296))) p n c) → Calls Tryd.prog 15 #[hv R pc 0 0, .slice p n c] W fun e w' => e = .returned (.agg D) ∧ Below W.heap.size W w' := fun W hW D hD => qLoad_1 (hcs R pc 0 0) pc p n c W X I (I % 4294967296) ((pc + 4) % 4294967296) ((R s1 + I) % 4294967296) (R s1) (R s2) (R rd) rd s1 s2 D 13 V (by omega) (by omega) rfl (hcs_ones _ _ _ _) rfl rfl rfl hA hB hRd d.l1 d.l2 d.lr d.i0 d.i1 hz (fun W' hW' => d.CLt W' (under hW hW')) d.CDt CO CN CT' (fun W' hW' => ct W' (under hW hW')) hD
      exact ⟨_, 0, 0, rd, rd, _, 0, 0, 0, 0, 0, false, 0, dd, stepP o dd CC, stepQ o (by rw [setRd _ _ _ _ _ _ h0 d.lr]; rfl) QQ⟩
  · have dd : Does n pc 2 3 0 0 0 0 0 0 0 0 := ⟨rfl, rfl, rfl, by omega, fun _ => rfl, .inr (.inr ⟨rfl, by omega, by omega⟩), .inl rfl, by omega, by omega⟩
    have CC : ∀ W, Below w.heap.size w W → Calls Tryd.prog 26 #[hv R pc 0 0, .slice p n c] W fun e w' => e = .returned (cv pc pc 2 3 0 0 0 0 0 false 0) ∧ Below W.heap.size W w' := fun W hW => hcLoad13 (hcs R pc 0 0) pc p n c W X I (R s1) (R s2) rd s1 s2 (ccs pc pc 2 3 0 0 0 0 0 false 0) rfl hA hB d.l1 d.l2 d.lr ⟨rfl, ones_ccs _ _ _ _ _ _ _ _ _ _ _⟩ (fun W' hW' => d.CLm W' (under hW hW')) (fun W' hW' => d.CDm W' (under hW hW')) (fun W' hW' => hload_no 13 rd s1 s2 I pc (R s1) 0 p n c a0 a1 W' (fun W'' hW'' => cm W'' (under (under hW hW') hW'')))
    have QQ : ∀ W, Below w.heap.size w W → ∀ D, Hid (Did D (ccs pc pc 2 3 0 0 0 0 0 false 0) (((hcs R pc 0 0).setIfInBounds 33 (.int .i64 2)).setIfInBounds 34 (.int .i64 3)) p n c) → Calls Tryd.prog 15 #[hv R pc 0 0, .slice p n c] W fun e w' => e = .returned (.agg D) ∧ Below W.heap.size W w' := fun W hW D hD => qLoadX (hcs R pc 0 0) pc p n c W X I (I % 4294967296) ((pc + 4) % 4294967296) ((R s1 + I) % 4294967296) (R s1) (R s2) (R rd) rd s1 s2 D 13 0 (by omega) (by omega) rfl (hcs_ones _ _ _ _) rfl rfl rfl hA hB hRd d.l1 d.l2 d.lr d.i0 d.i1 (fun W' hW' => d.CLt W' (under hW hW')) d.CDt CO CN CT' (fun W' hW' => ct W' (under hW hW')) (fun W' => qtrap_any (hcs R pc 0 0) pc 3 p n c W' rfl (hcs_ones _ _ _ _) rfl ⟨_, rfl⟩ ⟨_, rfl⟩ D hD) hD
    exact ⟨_, 2, _, 0, 0, 0, 0, 0, 0, 0, 0, false, 0, dd, stepP o dd CC, stepQ o rfl QQ⟩

set_option maxRecDepth 20000 in
set_option maxHeartbeats 1000000 in
theorem gLoad14 {w : World} {R : Nat → Int} {pc : Int} {p : Option Addr} {n c : Nat} {f : Nat → Int} {X I : Int} {rd s1 s2 : Nat} (o : Ok w R pc p n c f) (d : Dec w R pc p n c f X 14 rd s1 s2 I) : Both w R pc p n c f := by
  have hA := hcs_reg R pc 0 0 s1 d.l1
  have hB := hcs_reg R pc 0 0 s2 d.l2
  have hRd := hcs_reg R pc 0 0 rd d.lr
  obtain ⟨a0, a1⟩ := o.hR s1 d.l1
  obtain ⟨b0, b1⟩ := o.hR s2 d.l2
  have p0 := o.p0
  have p1 := o.p1
  have CO := fun W => rOf_any I W
  have CN := fun W => qsum_any pc 4 p0 p1 (by omega) (by omega) W
  have CT := fun W => qsum_any (R s1) (I % 4294967296) a0 a1 (by omega) (by omega) W
  have hone := fun W => honward_any pc p0 p1 W
  have eTH : (R s1 + I % 4294967296) % 4294967296 = (R s1 + I) % 4294967296 := by omega
  have CT' : ∀ W, Calls Tryd.prog 32 #[.int .u32 (R s1), .int .u32 (I % 4294967296)] W fun e w' => e = .returned (.int .u32 ((R s1 + I) % 4294967296)) ∧ w' = W := fun W => by rw [← eTH]; exact CT W
  rcases memLoads o 14 ((R s1 + I) % 4294967296) (by omega) (by omega) with ⟨V, _, cm, ct⟩ | ⟨cm, ct⟩
  · by_cases h0 : rd = 0
    · have hz : ((rd : Int) != 0) = false := by subst h0; rfl
      have er : (0 : Int) = (rd : Int) := by subst h0; rfl
      have dd : Does n ((pc + 4) % 4294967296) 0 0 0 rd 0 0 0 0 0 0 := ⟨er, rfl, rfl, d.lr, fun _ => rfl, .inl ⟨rfl, rfl⟩, .inl rfl, by omega, by omega⟩
      have CC : ∀ W, Below w.heap.size w W → Calls Tryd.prog 26 #[hv R pc 0 0, .slice p n c] W fun e w' => e = .returned (cv pc ((pc + 4) % 4294967296) 0 0 0 (0) 0 0 0 false 0) ∧ Below W.heap.size W w' := fun W hW => hcLoad14 (hcs R pc 0 0) pc p n c W X I (R s1) (R s2) rd s1 s2 (ccs pc ((pc + 4) % 4294967296) 0 0 0 0 0 0 0 false 0) rfl hA hB d.l1 d.l2 d.lr ⟨rfl, ones_ccs _ _ _ _ _ _ _ _ _ _ _⟩ (fun W' hW' => d.CLm W' (under hW hW')) (fun W' hW' => d.CDm W' (under hW hW')) (fun W' hW' => hload_yes 14 I pc (R s1) V ((pc + 4) % 4294967296) rd s1 s2 (.bool true) p n c a0 a1 W' (fun W'' hW'' => cm W'' (under (under hW hW') hW'')) hone 0 0 (fun W'' => by rw [← er]; exact hgive_no pc ((pc + 4) % 4294967296) V W''))
      have QQ : ∀ W, Below w.heap.size w W → ∀ D, Hid (Did D (ccs pc ((pc + 4) % 4294967296) 0 0 0 (0) 0 0 0 false 0) ((hcs R pc 0 0).setIfInBounds 32 (.int .u32 ((pc + 4) % 4294967296))) p n c) → Calls Tryd.prog 15 #[hv R pc 0 0, .slice p n c] W fun e w' => e = .returned (.agg D) ∧ Below W.heap.size W w' := fun W hW D hD => qLoad_0 (hcs R pc 0 0) pc p n c W X I (I % 4294967296) ((pc + 4) % 4294967296) ((R s1 + I) % 4294967296) (R s1) (R s2) (R rd) rd s1 s2 D 14 V (by omega) (by omega) rfl (hcs_ones _ _ _ _) rfl rfl rfl hA hB hRd d.l1 d.l2 d.lr d.i0 d.i1 hz (fun W' hW' => d.CLt W' (under hW hW')) d.CDt CO CN CT' (fun W' hW' => ct W' (under hW hW')) hD
      exact ⟨_, 0, 0, 0, rd, 0, 0, 0, 0, 0, 0, false, 0, dd, stepP o dd CC, stepQ o (by subst h0; rfl) QQ⟩
    · have hz : ((rd : Int) != 0) = true := by simp; omega
      have dd : Does n ((pc + 4) % 4294967296) 0 0 rd rd V 0 0 0 0 0 := ⟨rfl, rfl, rfl, d.lr, fun h => absurd h h0, .inl ⟨rfl, rfl⟩, .inl rfl, by omega, by omega⟩
      have CC : ∀ W, Below w.heap.size w W → Calls Tryd.prog 26 #[hv R pc 0 0, .slice p n c] W fun e w' => e = .returned (cv pc ((pc + 4) % 4294967296) 0 0 rd (V) 0 0 0 false 0) ∧ Below W.heap.size W w' := fun W hW => hcLoad14 (hcs R pc 0 0) pc p n c W X I (R s1) (R s2) rd s1 s2 (ccs pc ((pc + 4) % 4294967296) 0 0 rd V 0 0 0 false 0) rfl hA hB d.l1 d.l2 d.lr ⟨rfl, ones_ccs _ _ _ _ _ _ _ _ _ _ _⟩ (fun W' hW' => d.CLm W' (under hW hW')) (fun W' hW' => d.CDm W' (under hW hW')) (fun W' hW' => hload_yes 14 I pc (R s1) V ((pc + 4) % 4294967296) rd s1 s2 (.bool true) p n c a0 a1 W' (fun W'' hW'' => cm W'' (under (under hW hW') hW'')) hone rd V (fun W'' => hgive_yes pc ((pc + 4) % 4294967296) V rd hz W''))
      have QQ : ∀ W, Below w.heap.size w W → ∀ D, Hid (Did D (ccs pc ((pc + 4) % 4294967296) 0 0 rd (V) 0 0 0 false 0) (((hcs R pc 0 0).setIfInBounds rd (.int .u32 V)).setIfInBounds 32 (.int .u32 ((pc + 4) % 4294967296))) p n c) → Calls Tryd.prog 15 #[hv R pc 0 0, .slice p n c] W fun e w' => e = .returned (.agg D) ∧ Below W.heap.size W w' := fun W hW D hD => qLoad_1 (hcs R pc 0 0) pc p n c W X I (I % 4294967296) ((pc + 4) % 4294967296) ((R s1 + I) % 4294967296) (R s1) (R s2) (R rd) rd s1 s2 D 14 V (by omega) (by omega) rfl (hcs_ones _ _ _ _) rfl rfl rfl hA hB hRd d.l1 d.l2 d.lr d.i0 d.i1 hz (fun W' hW' => d.CLt W' (under hW hW')) d.CDt CO CN CT' (fun W' hW' => ct W' (under hW hW')) hD
      exact ⟨_, 0, 0, rd, rd, _, 0, 0, 0, 0, 0, false, 0, dd, stepP o dd CC, stepQ o (by rw [setRd _ _ _ _ _ _ h0 d.lr]; rfl) QQ⟩
  · have dd : Does n pc 2 3 0 0 0 0 0 0 0 0 := ⟨rfl, rfl, rfl, by omega, fun _ => rfl, .inr (.inr ⟨rfl, by omega, by omega⟩), .inl rfl, by omega, by omega⟩
    have CC : ∀ W, Below w.heap.size w W → Calls Tryd.prog 26 #[hv R pc 0 0, .slice p n c] W fun e w' => e = .returned (cv pc pc 2 3 0 0 0 0 0 false 0) ∧ Below W.heap.size W w' := fun W hW => hcLoad14 (hcs R pc 0 0) pc p n c W X I (R s1) (R s2) rd s1 s2 (ccs pc pc 2 3 0 0 0 0 0 false 0) rfl hA hB d.l1 d.l2 d.lr ⟨rfl, ones_ccs _ _ _ _ _ _ _ _ _ _ _⟩ (fun W' hW' => d.CLm W' (under hW hW')) (fun W' hW' => d.CDm W' (under hW hW')) (fun W' hW' => hload_no 14 rd s1 s2 I pc (R s1) 0 p n c a0 a1 W' (fun W'' hW'' => cm W'' (under (under hW hW') hW'')))
    have QQ : ∀ W, Below w.heap.size w W → ∀ D, Hid (Did D (ccs pc pc 2 3 0 0 0 0 0 false 0) (((hcs R pc 0 0).setIfInBounds 33 (.int .i64 2)).setIfInBounds 34 (.int .i64 3)) p n c) → Calls Tryd.prog 15 #[hv R pc 0 0, .slice p n c] W fun e w' => e = .returned (.agg D) ∧ Below W.heap.size W w' := fun W hW D hD => qLoadX (hcs R pc 0 0) pc p n c W X I (I % 4294967296) ((pc + 4) % 4294967296) ((R s1 + I) % 4294967296) (R s1) (R s2) (R rd) rd s1 s2 D 14 0 (by omega) (by omega) rfl (hcs_ones _ _ _ _) rfl rfl rfl hA hB hRd d.l1 d.l2 d.lr d.i0 d.i1 (fun W' hW' => d.CLt W' (under hW hW')) d.CDt CO CN CT' (fun W' hW' => ct W' (under hW hW')) (fun W' => qtrap_any (hcs R pc 0 0) pc 3 p n c W' rfl (hcs_ones _ _ _ _) rfl ⟨_, rfl⟩ ⟨_, rfl⟩ D hD) hD
    exact ⟨_, 2, _, 0, 0, 0, 0, 0, 0, 0, 0, false, 0, dd, stepP o dd CC, stepQ o rfl QQ⟩

set_option maxRecDepth 20000 in
set_option maxHeartbeats 1000000 in
theorem gLoad15 {w : World} {R : Nat → Int} {pc : Int} {p : Option Addr} {n c : Nat} {f : Nat → Int} {X I : Int} {rd s1 s2 : Nat} (o : Ok w R pc p n c f) (d : Dec w R pc p n c f X 15 rd s1 s2 I) : Both w R pc p n c f := by
  have hA := hcs_reg R pc 0 0 s1 d.l1
  have hB := hcs_reg R pc 0 0 s2 d.l2
  have hRd := hcs_reg R pc 0 0 rd d.lr
  obtain ⟨a0, a1⟩ := o.hR s1 d.l1
  obtain ⟨b0, b1⟩ := o.hR s2 d.l2
  have p0 := o.p0
  have p1 := o.p1
  have CO := fun W => rOf_any I W
  have CN := fun W => qsum_any pc 4 p0 p1 (by omega) (by omega) W
  have CT := fun W => qsum_any (R s1) (I % 4294967296) a0 a1 (by omega) (by omega) W
  have hone := fun W => honward_any pc p0 p1 W
  have eTH : (R s1 + I % 4294967296) % 4294967296 = (R s1 + I) % 4294967296 := by omega
  have CT' : ∀ W, Calls Tryd.prog 32 #[.int .u32 (R s1), .int .u32 (I % 4294967296)] W fun e w' => e = .returned (.int .u32 ((R s1 + I) % 4294967296)) ∧ w' = W := fun W => by rw [← eTH]; exact CT W
  rcases memLoads o 15 ((R s1 + I) % 4294967296) (by omega) (by omega) with ⟨V, _, cm, ct⟩ | ⟨cm, ct⟩
  · by_cases h0 : rd = 0
    · have hz : ((rd : Int) != 0) = false := by subst h0; rfl
      have er : (0 : Int) = (rd : Int) := by subst h0; rfl
      have dd : Does n ((pc + 4) % 4294967296) 0 0 0 rd 0 0 0 0 0 0 := ⟨er, rfl, rfl, d.lr, fun _ => rfl, .inl ⟨rfl, rfl⟩, .inl rfl, by omega, by omega⟩
      have CC : ∀ W, Below w.heap.size w W → Calls Tryd.prog 26 #[hv R pc 0 0, .slice p n c] W fun e w' => e = .returned (cv pc ((pc + 4) % 4294967296) 0 0 0 (0) 0 0 0 false 0) ∧ Below W.heap.size W w' := fun W hW => hcLoad15 (hcs R pc 0 0) pc p n c W X I (R s1) (R s2) rd s1 s2 (ccs pc ((pc + 4) % 4294967296) 0 0 0 0 0 0 0 false 0) rfl hA hB d.l1 d.l2 d.lr ⟨rfl, ones_ccs _ _ _ _ _ _ _ _ _ _ _⟩ (fun W' hW' => d.CLm W' (under hW hW')) (fun W' hW' => d.CDm W' (under hW hW')) (fun W' hW' => hload_yes 15 I pc (R s1) V ((pc + 4) % 4294967296) rd s1 s2 (.bool true) p n c a0 a1 W' (fun W'' hW'' => cm W'' (under (under hW hW') hW'')) hone 0 0 (fun W'' => by rw [← er]; exact hgive_no pc ((pc + 4) % 4294967296) V W''))
      have QQ : ∀ W, Below w.heap.size w W → ∀ D, Hid (Did D (ccs pc ((pc + 4) % 4294967296) 0 0 0 (0) 0 0 0 false 0) ((hcs R pc 0 0).setIfInBounds 32 (.int .u32 ((pc + 4) % 4294967296))) p n c) → Calls Tryd.prog 15 #[hv R pc 0 0, .slice p n c] W fun e w' => e = .returned (.agg D) ∧ Below W.heap.size W w' := fun W hW D hD => qLoad_0 (hcs R pc 0 0) pc p n c W X I (I % 4294967296) ((pc + 4) % 4294967296) ((R s1 + I) % 4294967296) (R s1) (R s2) (R rd) rd s1 s2 D 15 V (by omega) (by omega) rfl (hcs_ones _ _ _ _) rfl rfl rfl hA hB hRd d.l1 d.l2 d.lr d.i0 d.i1 hz (fun W' hW' => d.CLt W' (under hW hW')) d.CDt CO CN CT' (fun W' hW' => ct W' (under hW hW')) hD
      exact ⟨_, 0, 0, 0, rd, 0, 0, 0, 0, 0, 0, false, 0, dd, stepP o dd CC, stepQ o (by subst h0; rfl) QQ⟩
    · have hz : ((rd : Int) != 0) = true := by simp; omega
      have dd : Does n ((pc + 4) % 4294967296) 0 0 rd rd V 0 0 0 0 0 := ⟨rfl, rfl, rfl, d.lr, fun h => absurd h h0, .inl ⟨rfl, rfl⟩, .inl rfl, by omega, by omega⟩
      have CC : ∀ W, Below w.heap.size w W → Calls Tryd.prog 26 #[hv R pc 0 0, .slice p n c] W fun e w' => e = .returned (cv pc ((pc + 4) % 4294967296) 0 0 rd (V) 0 0 0 false 0) ∧ Below W.heap.size W w' := fun W hW => hcLoad15 (hcs R pc 0 0) pc p n c W X I (R s1) (R s2) rd s1 s2 (ccs pc ((pc + 4) % 4294967296) 0 0 rd V 0 0 0 false 0) rfl hA hB d.l1 d.l2 d.lr ⟨rfl, ones_ccs _ _ _ _ _ _ _ _ _ _ _⟩ (fun W' hW' => d.CLm W' (under hW hW')) (fun W' hW' => d.CDm W' (under hW hW')) (fun W' hW' => hload_yes 15 I pc (R s1) V ((pc + 4) % 4294967296) rd s1 s2 (.bool true) p n c a0 a1 W' (fun W'' hW'' => cm W'' (under (under hW hW') hW'')) hone rd V (fun W'' => hgive_yes pc ((pc + 4) % 4294967296) V rd hz W''))
      have QQ : ∀ W, Below w.heap.size w W → ∀ D, Hid (Did D (ccs pc ((pc + 4) % 4294967296) 0 0 rd (V) 0 0 0 false 0) (((hcs R pc 0 0).setIfInBounds rd (.int .u32 V)).setIfInBounds 32 (.int .u32 ((pc + 4) % 4294967296))) p n c) → Calls Tryd.prog 15 #[hv R pc 0 0, .slice p n c] W fun e w' => e = .returned (.agg D) ∧ Below W.heap.size W w' := fun W hW D hD => qLoad_1 (hcs R pc 0 0) pc p n c W X I (I % 4294967296) ((pc + 4) % 4294967296) ((R s1 + I) % 4294967296) (R s1) (R s2) (R rd) rd s1 s2 D 15 V (by omega) (by omega) rfl (hcs_ones _ _ _ _) rfl rfl rfl hA hB hRd d.l1 d.l2 d.lr d.i0 d.i1 hz (fun W' hW' => d.CLt W' (under hW hW')) d.CDt CO CN CT' (fun W' hW' => ct W' (under hW hW')) hD
      exact ⟨_, 0, 0, rd, rd, _, 0, 0, 0, 0, 0, false, 0, dd, stepP o dd CC, stepQ o (by rw [setRd _ _ _ _ _ _ h0 d.lr]; rfl) QQ⟩
  · have dd : Does n pc 2 3 0 0 0 0 0 0 0 0 := ⟨rfl, rfl, rfl, by omega, fun _ => rfl, .inr (.inr ⟨rfl, by omega, by omega⟩), .inl rfl, by omega, by omega⟩
    have CC : ∀ W, Below w.heap.size w W → Calls Tryd.prog 26 #[hv R pc 0 0, .slice p n c] W fun e w' => e = .returned (cv pc pc 2 3 0 0 0 0 0 false 0) ∧ Below W.heap.size W w' := fun W hW => hcLoad15 (hcs R pc 0 0) pc p n c W X I (R s1) (R s2) rd s1 s2 (ccs pc pc 2 3 0 0 0 0 0 false 0) rfl hA hB d.l1 d.l2 d.lr ⟨rfl, ones_ccs _ _ _ _ _ _ _ _ _ _ _⟩ (fun W' hW' => d.CLm W' (under hW hW')) (fun W' hW' => d.CDm W' (under hW hW')) (fun W' hW' => hload_no 15 rd s1 s2 I pc (R s1) 0 p n c a0 a1 W' (fun W'' hW'' => cm W'' (under (under hW hW') hW'')))
    have QQ : ∀ W, Below w.heap.size w W → ∀ D, Hid (Did D (ccs pc pc 2 3 0 0 0 0 0 false 0) (((hcs R pc 0 0).setIfInBounds 33 (.int .i64 2)).setIfInBounds 34 (.int .i64 3)) p n c) → Calls Tryd.prog 15 #[hv R pc 0 0, .slice p n c] W fun e w' => e = .returned (.agg D) ∧ Below W.heap.size W w' := fun W hW D hD => qLoadX (hcs R pc 0 0) pc p n c W X I (I % 4294967296) ((pc + 4) % 4294967296) ((R s1 + I) % 4294967296) (R s1) (R s2) (R rd) rd s1 s2 D 15 0 (by omega) (by omega) rfl (hcs_ones _ _ _ _) rfl rfl rfl hA hB hRd d.l1 d.l2 d.lr d.i0 d.i1 (fun W' hW' => d.CLt W' (under hW hW')) d.CDt CO CN CT' (fun W' hW' => ct W' (under hW hW')) (fun W' => qtrap_any (hcs R pc 0 0) pc 3 p n c W' rfl (hcs_ones _ _ _ _) rfl ⟨_, rfl⟩ ⟨_, rfl⟩ D hD) hD
    exact ⟨_, 2, _, 0, 0, 0, 0, 0, 0, 0, 0, false, 0, dd, stepP o dd CC, stepQ o rfl QQ⟩

end Go.Proofs.YteadfdcnpfkmkaaDoor
namespace Go.Proofs.YteadfdcnpfkmkaaDoor
open Go.RowKit
open Hy
set_option linter.unusedVariables false

set_option maxRecDepth 20000 in
set_option maxHeartbeats 1000000 in
theorem gFence {w : World} {R : Nat → Int} {pc : Int} {p : Option Addr} {n c : Nat} {f : Nat → Int} {X I : Int} {rd s1 s2 : Nat} (o : Ok w R pc p n c f) (d : Dec w R pc p n c f X 46 rd s1 s2 I) : Both w R pc p n c f := by
  have hA := hcs_reg R pc 0 0 s1 d.l1
  have hB := hcs_reg R pc 0 0 s2 d.l2
  have hRd := hcs_reg R pc 0 0 rd d.lr
  obtain ⟨a0, a1⟩ := o.hR s1 d.l1
  obtain ⟨b0, b1⟩ := o.hR s2 d.l2
  have p0 := o.p0
  have p1 := o.p1
  have CO := fun W => rOf_any I W
  have CN := fun W => qsum_any pc 4 p0 p1 (by omega) (by omega) W
  have CT := fun W => qsum_any (R s1) (I % 4294967296) a0 a1 (by omega) (by omega) W
  have hone := fun W => honward_any pc p0 p1 W
  have dd : Does n ((pc + 4) % 4294967296) 0 0 0 0 0 0 0 0 0 0 := ⟨rfl, rfl, rfl, by omega, fun _ => rfl, .inl ⟨rfl, rfl⟩, .inl rfl, by omega, by omega⟩
  have CC : ∀ W, Below w.heap.size w W → Calls Tryd.prog 26 #[hv R pc 0 0, .slice p n c] W fun e w' => e = .returned (cv pc ((pc + 4) % 4294967296) 0 0 0 (0) 0 0 0 false 0) ∧ Below W.heap.size W w' := fun W hW => hcFence (hcs R pc 0 0) pc p n c W X I (R s1) (R s2) rd s1 s2 (ccs pc ((pc + 4) % 4294967296) 0 0 0 0 0 0 0 false 0) rfl hA hB d.l1 d.l2 d.lr ⟨rfl, ones_ccs _ _ _ _ _ _ _ _ _ _ _⟩ (fun W' hW' => d.CLm W' (under hW hW')) (fun W' hW' => d.CDm W' (under hW hW')) (fun W' hW' => honward_any pc p0 p1 W')
  have QQ : ∀ W, Below w.heap.size w W → ∀ D, Hid (Did D (ccs pc ((pc + 4) % 4294967296) 0 0 0 (0) 0 0 0 false 0) ((hcs R pc 0 0).setIfInBounds 32 (.int .u32 ((pc + 4) % 4294967296))) p n c) → Calls Tryd.prog 15 #[hv R pc 0 0, .slice p n c] W fun e w' => e = .returned (.agg D) ∧ Below W.heap.size W w' := fun W hW D hD => qFence (hcs R pc 0 0) pc p n c W X I (I % 4294967296) ((pc + 4) % 4294967296) ((R s1 + I % 4294967296) % 4294967296) (R s1) (R s2) (R rd) rd s1 s2 D rfl (hcs_ones _ _ _ _) rfl rfl rfl hA hB hRd d.l1 d.l2 d.lr d.i0 d.i1 (fun W' hW' => d.CLt W' (under hW hW')) d.CDt CO CN CT hD
  exact ⟨_, 0, 0, 0, 0, 0, 0, 0, 0, 0, 0, false, 0, dd, stepP o dd CC, stepQ o rfl QQ⟩

set_option maxRecDepth 20000 in
set_option maxHeartbeats 1000000 in
theorem gBreak {w : World} {R : Nat → Int} {pc : Int} {p : Option Addr} {n c : Nat} {f : Nat → Int} {X I : Int} {rd s1 s2 : Nat} (o : Ok w R pc p n c f) (d : Dec w R pc p n c f X 48 rd s1 s2 I) : Both w R pc p n c f := by
  have hA := hcs_reg R pc 0 0 s1 d.l1
  have hB := hcs_reg R pc 0 0 s2 d.l2
  have hRd := hcs_reg R pc 0 0 rd d.lr
  obtain ⟨a0, a1⟩ := o.hR s1 d.l1
  obtain ⟨b0, b1⟩ := o.hR s2 d.l2
  have p0 := o.p0
  have p1 := o.p1
  have CO := fun W => rOf_any I W
  have CN := fun W => qsum_any pc 4 p0 p1 (by omega) (by omega) W
  have CT := fun W => qsum_any (R s1) (I % 4294967296) a0 a1 (by omega) (by omega) W
  have hone := fun W => honward_any pc p0 p1 W
  have dd : Does n pc 2 6 0 0 0 0 0 0 0 0 := ⟨rfl, rfl, rfl, by omega, fun _ => rfl, .inr (.inr ⟨rfl, by omega, by omega⟩), .inl rfl, by omega, by omega⟩
  have CC : ∀ W, Below w.heap.size w W → Calls Tryd.prog 26 #[hv R pc 0 0, .slice p n c] W fun e w' => e = .returned (cv pc pc 2 6 0 0 0 0 0 false 0) ∧ Below W.heap.size W w' := fun W hW => hcBreak (hcs R pc 0 0) pc p n c W X I (R s1) (R s2) rd s1 s2 (ccs pc pc 2 6 0 0 0 0 0 false 0) rfl hA hB d.l1 d.l2 d.lr ⟨rfl, ones_ccs _ _ _ _ _ _ _ _ _ _ _⟩ (fun W' hW' => d.CLm W' (under hW hW')) (fun W' hW' => d.CDm W' (under hW hW')) (fun W' hW' => htrap_any pc 6 W')
  have QQ : ∀ W, Below w.heap.size w W → ∀ D, Hid (Did D (ccs pc pc 2 6 0 0 0 0 0 false 0) (((hcs R pc 0 0).setIfInBounds 33 (.int .i64 2)).setIfInBounds 34 (.int .i64 6)) p n c) → Calls Tryd.prog 15 #[hv R pc 0 0, .slice p n c] W fun e w' => e = .returned (.agg D) ∧ Below W.heap.size W w' := fun W hW D hD => qBreak (hcs R pc 0 0) pc p n c W X I (I % 4294967296) ((pc + 4) % 4294967296) ((R s1 + I % 4294967296) % 4294967296) (R s1) (R s2) (R rd) rd s1 s2 D rfl (hcs_ones _ _ _ _) rfl rfl rfl hA hB hRd d.l1 d.l2 d.lr d.i0 d.i1 (fun W' hW' => d.CLt W' (under hW hW')) d.CDt CO CN CT (fun W' => qtrap_any (hcs R pc 0 0) pc 6 p n c W' rfl (hcs_ones _ _ _ _) rfl ⟨_, rfl⟩ ⟨_, rfl⟩ D hD) hD
  exact ⟨_, 2, _, 0, 0, 0, 0, 0, 0, 0, 0, false, 0, dd, stepP o dd CC, stepQ o rfl QQ⟩

set_option maxRecDepth 20000 in
set_option maxHeartbeats 1000000 in
theorem gCall {w : World} {R : Nat → Int} {pc : Int} {p : Option Addr} {n c : Nat} {f : Nat → Int} {X I : Int} {rd s1 s2 : Nat} (o : Ok w R pc p n c f) (d : Dec w R pc p n c f X 47 rd s1 s2 I) : Both w R pc p n c f := by
  have hA := hcs_reg R pc 0 0 s1 d.l1
  have hB := hcs_reg R pc 0 0 s2 d.l2
  have hRd := hcs_reg R pc 0 0 rd d.lr
  obtain ⟨a0, a1⟩ := o.hR s1 d.l1
  obtain ⟨b0, b1⟩ := o.hR s2 d.l2
  have p0 := o.p0
  have p1 := o.p1
  have CO := fun W => rOf_any I W
  have CN := fun W => qsum_any pc 4 p0 p1 (by omega) (by omega) W
  have CT := fun W => qsum_any (R s1) (I % 4294967296) a0 a1 (by omega) (by omega) W
  have hone := fun W => honward_any pc p0 p1 W
  by_cases e0 : R 17 = 0
  · have dd : Does n pc 1 0 0 0 0 0 0 0 0 0 := ⟨rfl, rfl, rfl, by omega, fun _ => rfl, .inr (.inl ⟨rfl, rfl⟩), .inl rfl, by omega, by omega⟩
    have h17 : (hcs R pc 0 0)[17]? = some (.int .u32 0) := by rw [← e0]; rfl
    have CC : ∀ W, Below w.heap.size w W → Calls Tryd.prog 26 #[hv R pc 0 0, .slice p n c] W fun e w' => e = .returned (cv pc pc 1 0 0 0 0 0 0 false 0) ∧ Below W.heap.size W w' := fun W hW => hcCall (hcs R pc 0 0) pc p n c W X I (R s1) (R s2) rd s1 s2 (ccs pc pc 1 0 0 0 0 0 0 false 0) size_hart rfl hA hB d.l1 d.l2 d.lr ⟨rfl, ones_ccs _ _ _ _ _ _ _ _ _ _ _⟩ (fun W' hW' => d.CLm W' (under hW hW')) (fun W' hW' => d.CDm W' (under hW hW')) (fun W' hW' => hcall_0 (hcs R pc 0 0) pc rfl h17 W')
    have QQ : ∀ W, Below w.heap.size w W → ∀ D, Hid (Did D (ccs pc pc 1 0 0 0 0 0 0 false 0) (((hcs R pc 0 0).setIfInBounds 33 (.int .i64 1)).setIfInBounds 32 (.int .u32 pc)) p n c) → Calls Tryd.prog 15 #[hv R pc 0 0, .slice p n c] W fun e w' => e = .returned (.agg D) ∧ Below W.heap.size W w' := fun W hW D hD => qCall0 (hcs R pc 0 0) pc p n c W X I (I % 4294967296) ((pc + 4) % 4294967296) ((R s1 + I % 4294967296) % 4294967296) (R s1) (R s2) (R rd) rd s1 s2 D (R 10) h17 rfl rfl (hcs_ones _ _ _ _) rfl rfl rfl hA hB hRd d.l1 d.l2 d.lr d.i0 d.i1 (fun W' hW' => d.CLt W' (under hW hW')) d.CDt CO CN CT hD
    exact ⟨_, 1, 0, 0, 0, 0, 0, 0, 0, 0, 0, false, 0, dd, stepP o dd CC, stepQ o rfl QQ⟩
  · by_cases e1 : R 17 = 1
    · have dd : Does n ((pc + 4) % 4294967296) 0 0 0 0 0 0 0 0 0 0 := ⟨rfl, rfl, rfl, by omega, fun _ => rfl, .inl ⟨rfl, rfl⟩, .inl rfl, by omega, by omega⟩
      have h17 : (hcs R pc 0 0)[17]? = some (.int .u32 1) := by rw [← e1]; rfl
      have CC : ∀ W, Below w.heap.size w W → Calls Tryd.prog 26 #[hv R pc 0 0, .slice p n c] W fun e w' => e = .returned (cv pc ((pc + 4) % 4294967296) 0 0 0 0 0 0 0 true (R 10)) ∧ Below W.heap.size W w' := fun W hW => hcCall (hcs R pc 0 0) pc p n c W X I (R s1) (R s2) rd s1 s2 (ccs pc ((pc + 4) % 4294967296) 0 0 0 0 0 0 0 true (R 10)) size_hart rfl hA hB d.l1 d.l2 d.lr ⟨rfl, ones_ccs _ _ _ _ _ _ _ _ _ _ _⟩ (fun W' hW' => d.CLm W' (under hW hW')) (fun W' hW' => d.CDm W' (under hW hW')) (fun W' hW' => hcall_1 (hcs R pc 0 0) pc (R 10) ((pc + 4) % 4294967296) rfl h17 rfl W' hone)
      have QQ : ∀ W, Below w.heap.size w W → ∀ D, Hid (Did D (ccs pc ((pc + 4) % 4294967296) 0 0 0 0 0 0 0 true (R 10)) ((hcs R pc 0 0).setIfInBounds 32 (.int .u32 ((pc + 4) % 4294967296))) p n c) → Calls Tryd.prog 15 #[hv R pc 0 0, .slice p n c] W fun e w' => e = .returned (.agg D) ∧ Below W.heap.size W w' := fun W hW D hD => qCall1 (hcs R pc 0 0) pc p n c W X I (I % 4294967296) ((pc + 4) % 4294967296) ((R s1 + I % 4294967296) % 4294967296) (R s1) (R s2) (R rd) rd s1 s2 D (R 10) h17 rfl rfl (hcs_ones _ _ _ _) rfl rfl rfl hA hB hRd d.l1 d.l2 d.lr d.i0 d.i1 (fun W' hW' => d.CLt W' (under hW hW')) d.CDt CO CN CT hD
      exact ⟨_, 0, 0, 0, 0, 0, 0, 0, 0, 0, 0, true, _, dd, stepP o dd CC, stepQ o rfl QQ⟩
    · have dd : Does n pc 2 5 0 0 0 0 0 0 0 0 := ⟨rfl, rfl, rfl, by omega, fun _ => rfl, .inr (.inr ⟨rfl, by omega, by omega⟩), .inl rfl, by omega, by omega⟩
      have n0 : (R 17 == 0) = false := beq_eq_false_iff_ne.2 e0
      have n1 : (R 17 == 1) = false := beq_eq_false_iff_ne.2 e1
      have CC : ∀ W, Below w.heap.size w W → Calls Tryd.prog 26 #[hv R pc 0 0, .slice p n c] W fun e w' => e = .returned (cv pc pc 2 5 0 0 0 0 0 false 0) ∧ Below W.heap.size W w' := fun W hW => hcCall (hcs R pc 0 0) pc p n c W X I (R s1) (R s2) rd s1 s2 (ccs pc pc 2 5 0 0 0 0 0 false 0) size_hart rfl hA hB d.l1 d.l2 d.lr ⟨rfl, ones_ccs _ _ _ _ _ _ _ _ _ _ _⟩ (fun W' hW' => d.CLm W' (under hW hW')) (fun W' hW' => d.CDm W' (under hW hW')) (fun W' hW' => hcall_x (hcs R pc 0 0) pc (R 17) rfl rfl n0 n1 W')
      have QQ : ∀ W, Below w.heap.size w W → ∀ D, Hid (Did D (ccs pc pc 2 5 0 0 0 0 0 false 0) (((hcs R pc 0 0).setIfInBounds 33 (.int .i64 2)).setIfInBounds 34 (.int .i64 5)) p n c) → Calls Tryd.prog 15 #[hv R pc 0 0, .slice p n c] W fun e w' => e = .returned (.agg D) ∧ Below W.heap.size W w' := fun W hW D hD => qCallX (hcs R pc 0 0) pc p n c W X I (I % 4294967296) ((pc + 4) % 4294967296) ((R s1 + I % 4294967296) % 4294967296) (R s1) (R s2) (R rd) rd s1 s2 D (R 10) (R 17) rfl rfl n0 n1 rfl (hcs_ones _ _ _ _) rfl rfl rfl hA hB hRd d.l1 d.l2 d.lr d.i0 d.i1 (fun W' hW' => d.CLt W' (under hW hW')) d.CDt CO CN CT (fun W' => qtrap_any (hcs R pc 0 0) pc 5 p n c W' rfl (hcs_ones _ _ _ _) rfl ⟨_, rfl⟩ ⟨_, rfl⟩ D hD) hD
      exact ⟨_, 2, _, 0, 0, 0, 0, 0, 0, 0, 0, false, 0, dd, stepP o dd CC, stepQ o rfl QQ⟩

end Go.Proofs.YteadfdcnpfkmkaaDoor
namespace Go.Proofs.YteadfdcnpfkmkaaDoor
open Go.RowKit
open Hy
set_option linter.unusedVariables false

theorem sto_mod1 (f : Nat → Int) (a : Nat) (B : Int) : sto f a (B % 256) 1 = sto f a B 1 := by
  funext i
  unfold sto
  by_cases h : a ≤ i ∧ i < a + 1
  · rw [if_pos h, if_pos h, show i - a = 0 by omega, show p256 0 = 1 from rfl]; omega
  · rw [if_neg h, if_neg h]
theorem sto_mod2 (f : Nat → Int) (a : Nat) (B : Int) : sto f a (B % 65536) 2 = sto f a B 2 := by
  funext i
  unfold sto
  by_cases h : a ≤ i ∧ i < a + 2
  · rw [if_pos h, if_pos h]
    rcases (by omega : i - a = 0 ∨ i - a = 1) with e | e
    · rw [e, show p256 0 = 1 from rfl]; omega
    · rw [e, show p256 1 = 256 from rfl]; omega
  · rw [if_neg h, if_neg h]

set_option maxRecDepth 20000 in
set_option maxHeartbeats 1000000 in
theorem gStore1 {w : World} {R : Nat → Int} {pc : Int} {p : Option Addr} {n c : Nat} {f : Nat → Int} {X I : Int} {rd s1 s2 : Nat} (o : Ok w R pc p n c f) (d : Dec w R pc p n c f X 16 rd s1 s2 I) : Both w R pc p n c f := by
  have hA := hcs_reg R pc 0 0 s1 d.l1
  have hB := hcs_reg R pc 0 0 s2 d.l2
  have hRd := hcs_reg R pc 0 0 rd d.lr
  obtain ⟨a0, a1⟩ := o.hR s1 d.l1
  obtain ⟨b0, b1⟩ := o.hR s2 d.l2
  have p0 := o.p0
  have p1 := o.p1
  have CO := fun W => rOf_any I W
  have CN := fun W => qsum_any pc 4 p0 p1 (by omega) (by omega) W
  have CT := fun W => qsum_any (R s1) (I % 4294967296) a0 a1 (by omega) (by omega) W
  have hone := fun W => honward_any pc p0 p1 W
  have eTH : (R s1 + I % 4294967296) % 4294967296 = (R s1 + I) % 4294967296 := by omega
  have CT' : ∀ W, Calls Tryd.prog 32 #[.int .u32 (R s1), .int .u32 (I % 4294967296)] W fun e w' => e = .returned (.int .u32 ((R s1 + I) % 4294967296)) ∧ w' = W := fun W => by rw [← eTH]; exact CT W
  rcases memStores o 16 ((R s1 + I) % 4294967296) (R s2) 1 rfl (by omega) (by omega) (by omega) b0 b1 with ⟨a, ea, han, cm, ct⟩ | ⟨cm, ct⟩
  · have CW : ∀ W, Calls Tryd.prog 62 #[.int .u32 (R s2), .int .u32 ((1 : Nat) : Int)] W fun e w' => e = .returned (.int .u32 (R s2 % 256)) ∧ w' = W := fun W => by
      have h := lowest_any (R s2) 1 (by omega) b0 b1 W
      rwa [show R s2 % p256 1 = R s2 % 256 by (show R s2 % 256 = _; omega)] at h
    have dd : Does n ((pc + 4) % 4294967296) 0 0 0 0 0 ((R s1 + I) % 4294967296) 1 a 1 (R s2 % 256) := ⟨rfl, ea, rfl, by omega, fun _ => rfl, .inl ⟨rfl, rfl⟩, .inr ⟨by omega, by omega⟩, by omega, by omega⟩
    have CC : ∀ W, Below w.heap.size w W → Calls Tryd.prog 26 #[hv R pc 0 0, .slice p n c] W fun e w' => e = .returned (cv pc ((pc + 4) % 4294967296) 0 0 0 0 ((R s1 + I) % 4294967296) 1 (R s2 % 256) false 0) ∧ Below W.heap.size W w' := fun W hW => hcStore16 (hcs R pc 0 0) pc p n c W X I (R s1) (R s2) rd s1 s2 (ccs pc ((pc + 4) % 4294967296) 0 0 0 0 ((R s1 + I) % 4294967296) 1 (R s2 % 256) false 0) rfl hA hB d.l1 d.l2 d.lr ⟨rfl, ones_ccs _ _ _ _ _ _ _ _ _ _ _⟩ (fun W' hW' => d.CLm W' (under hW hW')) (fun W' hW' => d.CDm W' (under hW hW')) (fun W' hW' => hstore_yes 16 rd s1 s2 I pc (R s1) (R s2) ((pc + 4) % 4294967296) (R s2 % 256) 1 (by omega) p n c a0 a1 W' cm hone CW)
    have QQ : QStep w R pc p n c f ((pc + 4) % 4294967296) 0 0 0 0 0 ((R s1 + I) % 4294967296) 1 a 1 (R s2 % 256) false 0 := fun W hW =>
      (qStore1 (hcs R pc 0 0) pc p n c W X I (I % 4294967296) ((pc + 4) % 4294967296) ((R s1 + I) % 4294967296) (R s1) (R s2) (R rd) rd s1 s2 (sto f a (R s2) 1) b0 b1 rfl (hcs_ones _ _ _ _) rfl rfl rfl hA hB hRd d.l1 d.l2 d.lr d.i0 d.i1 (fun W' hW' => d.CLt W' (under hW hW')) d.CDt CO CN CT' (fun W' hW' => ct W' (under hW hW')) (fun W' => tSize_store 16 W') (fun W' => rPower_any 8 (by omega) W')).mono fun e w' ⟨⟨D, h, cap, he, hD, hcap, hF⟩, hb⟩ => ⟨⟨D, some ⟨h, 0, none⟩, cap, he, hD, hcap, by rw [sto_mod1]; exact Mem.ofFr hF⟩, hb⟩
    exact ⟨_, 0, 0, 0, 0, 0, _, _, a, 1, _, false, 0, dd, stepP o dd CC, QQ⟩
  · have dd : Does n pc 2 4 0 0 0 0 0 0 0 0 := ⟨rfl, rfl, rfl, by omega, fun _ => rfl, .inr (.inr ⟨rfl, by omega, by omega⟩), .inl rfl, by omega, by omega⟩
    have CC : ∀ W, Below w.heap.size w W → Calls Tryd.prog 26 #[hv R pc 0 0, .slice p n c] W fun e w' => e = .returned (cv pc pc 2 4 0 0 0 0 0 false 0) ∧ Below W.heap.size W w' := fun W hW => hcStore16 (hcs R pc 0 0) pc p n c W X I (R s1) (R s2) rd s1 s2 (ccs pc pc 2 4 0 0 0 0 0 false 0) rfl hA hB d.l1 d.l2 d.lr ⟨rfl, ones_ccs _ _ _ _ _ _ _ _ _ _ _⟩ (fun W' hW' => d.CLm W' (under hW hW')) (fun W' hW' => d.CDm W' (under hW hW')) (fun W' hW' => hstore_no 16 rd s1 s2 I pc (R s1) (R s2) p n c a0 a1 W' cm)
    have QQ : ∀ W, Below w.heap.size w W → ∀ D, Hid (Did D (ccs pc pc 2 4 0 0 0 0 0 false 0) (((hcs R pc 0 0).setIfInBounds 33 (.int .i64 2)).setIfInBounds 34 (.int .i64 4)) p n c) → Calls Tryd.prog 15 #[hv R pc 0 0, .slice p n c] W fun e w' => e = .returned (.agg D) ∧ Below W.heap.size W w' := fun W hW D hD => qStoreX (hcs R pc 0 0) pc p n c W X I (I % 4294967296) ((pc + 4) % 4294967296) ((R s1 + I) % 4294967296) (R s1) (R s2) (R rd) rd s1 s2 D 16 (by omega) (by omega) rfl (hcs_ones _ _ _ _) rfl rfl rfl hA hB hRd d.l1 d.l2 d.lr d.i0 d.i1 (fun W' hW' => d.CLt W' (under hW hW')) d.CDt CO CN CT' (fun W' hW' => ct W' (under hW hW')) (fun W' => qtrap_any (hcs R pc 0 0) pc 4 p n c W' rfl (hcs_ones _ _ _ _) rfl ⟨_, rfl⟩ ⟨_, rfl⟩ D hD) hD
    exact ⟨_, 2, _, 0, 0, 0, 0, 0, 0, 0, 0, false, 0, dd, stepP o dd CC, stepQ o rfl QQ⟩

set_option maxRecDepth 20000 in
set_option maxHeartbeats 1000000 in
theorem gStore2 {w : World} {R : Nat → Int} {pc : Int} {p : Option Addr} {n c : Nat} {f : Nat → Int} {X I : Int} {rd s1 s2 : Nat} (o : Ok w R pc p n c f) (d : Dec w R pc p n c f X 17 rd s1 s2 I) : Both w R pc p n c f := by
  have hA := hcs_reg R pc 0 0 s1 d.l1
  have hB := hcs_reg R pc 0 0 s2 d.l2
  have hRd := hcs_reg R pc 0 0 rd d.lr
  obtain ⟨a0, a1⟩ := o.hR s1 d.l1
  obtain ⟨b0, b1⟩ := o.hR s2 d.l2
  have p0 := o.p0
  have p1 := o.p1
  have CO := fun W => rOf_any I W
  have CN := fun W => qsum_any pc 4 p0 p1 (by omega) (by omega) W
  have CT := fun W => qsum_any (R s1) (I % 4294967296) a0 a1 (by omega) (by omega) W
  have hone := fun W => honward_any pc p0 p1 W
  have eTH : (R s1 + I % 4294967296) % 4294967296 = (R s1 + I) % 4294967296 := by omega
  have CT' : ∀ W, Calls Tryd.prog 32 #[.int .u32 (R s1), .int .u32 (I % 4294967296)] W fun e w' => e = .returned (.int .u32 ((R s1 + I) % 4294967296)) ∧ w' = W := fun W => by rw [← eTH]; exact CT W
  rcases memStores o 17 ((R s1 + I) % 4294967296) (R s2) 2 rfl (by omega) (by omega) (by omega) b0 b1 with ⟨a, ea, han, cm, ct⟩ | ⟨cm, ct⟩
  · have CW : ∀ W, Calls Tryd.prog 62 #[.int .u32 (R s2), .int .u32 ((2 : Nat) : Int)] W fun e w' => e = .returned (.int .u32 (R s2 % 65536)) ∧ w' = W := fun W => by
      have h := lowest_any (R s2) 2 (by omega) b0 b1 W
      rwa [show R s2 % p256 2 = R s2 % 65536 by (show R s2 % 65536 = _; omega)] at h
    have dd : Does n ((pc + 4) % 4294967296) 0 0 0 0 0 ((R s1 + I) % 4294967296) 2 a 2 (R s2 % 65536) := ⟨rfl, ea, rfl, by omega, fun _ => rfl, .inl ⟨rfl, rfl⟩, .inr ⟨by omega, by omega⟩, by omega, by omega⟩
    have CC : ∀ W, Below w.heap.size w W → Calls Tryd.prog 26 #[hv R pc 0 0, .slice p n c] W fun e w' => e = .returned (cv pc ((pc + 4) % 4294967296) 0 0 0 0 ((R s1 + I) % 4294967296) 2 (R s2 % 65536) false 0) ∧ Below W.heap.size W w' := fun W hW => hcStore17 (hcs R pc 0 0) pc p n c W X I (R s1) (R s2) rd s1 s2 (ccs pc ((pc + 4) % 4294967296) 0 0 0 0 ((R s1 + I) % 4294967296) 2 (R s2 % 65536) false 0) rfl hA hB d.l1 d.l2 d.lr ⟨rfl, ones_ccs _ _ _ _ _ _ _ _ _ _ _⟩ (fun W' hW' => d.CLm W' (under hW hW')) (fun W' hW' => d.CDm W' (under hW hW')) (fun W' hW' => hstore_yes 17 rd s1 s2 I pc (R s1) (R s2) ((pc + 4) % 4294967296) (R s2 % 65536) 2 (by omega) p n c a0 a1 W' cm hone CW)
    have QQ : QStep w R pc p n c f ((pc + 4) % 4294967296) 0 0 0 0 0 ((R s1 + I) % 4294967296) 2 a 2 (R s2 % 65536) false 0 := fun W hW =>
      (qStore2 (hcs R pc 0 0) pc p n c W X I (I % 4294967296) ((pc + 4) % 4294967296) ((R s1 + I) % 4294967296) (R s1) (R s2) (R rd) rd s1 s2 (sto f a (R s2) 2) b0 b1 rfl (hcs_ones _ _ _ _) rfl rfl rfl hA hB hRd d.l1 d.l2 d.lr d.i0 d.i1 (fun W' hW' => d.CLt W' (under hW hW')) d.CDt CO CN CT' (fun W' hW' => ct W' (under hW hW')) (fun W' => tSize_store 17 W') (fun W' => rPower_any 16 (by omega) W')).mono fun e w' ⟨⟨D, h, cap, he, hD, hcap, hF⟩, hb⟩ => ⟨⟨D, some ⟨h, 0, none⟩, cap, he, hD, hcap, by rw [sto_mod2]; exact Mem.ofFr hF⟩, hb⟩
    exact ⟨_, 0, 0, 0, 0, 0, _, _, a, 2, _, false, 0, dd, stepP o dd CC, QQ⟩
  · have dd : Does n pc 2 4 0 0 0 0 0 0 0 0 := ⟨rfl, rfl, rfl, by omega, fun _ => rfl, .inr (.inr ⟨rfl, by omega, by omega⟩), .inl rfl, by omega, by omega⟩
    have CC : ∀ W, Below w.heap.size w W → Calls Tryd.prog 26 #[hv R pc 0 0, .slice p n c] W fun e w' => e = .returned (cv pc pc 2 4 0 0 0 0 0 false 0) ∧ Below W.heap.size W w' := fun W hW => hcStore17 (hcs R pc 0 0) pc p n c W X I (R s1) (R s2) rd s1 s2 (ccs pc pc 2 4 0 0 0 0 0 false 0) rfl hA hB d.l1 d.l2 d.lr ⟨rfl, ones_ccs _ _ _ _ _ _ _ _ _ _ _⟩ (fun W' hW' => d.CLm W' (under hW hW')) (fun W' hW' => d.CDm W' (under hW hW')) (fun W' hW' => hstore_no 17 rd s1 s2 I pc (R s1) (R s2) p n c a0 a1 W' cm)
    have QQ : ∀ W, Below w.heap.size w W → ∀ D, Hid (Did D (ccs pc pc 2 4 0 0 0 0 0 false 0) (((hcs R pc 0 0).setIfInBounds 33 (.int .i64 2)).setIfInBounds 34 (.int .i64 4)) p n c) → Calls Tryd.prog 15 #[hv R pc 0 0, .slice p n c] W fun e w' => e = .returned (.agg D) ∧ Below W.heap.size W w' := fun W hW D hD => qStoreX (hcs R pc 0 0) pc p n c W X I (I % 4294967296) ((pc + 4) % 4294967296) ((R s1 + I) % 4294967296) (R s1) (R s2) (R rd) rd s1 s2 D 17 (by omega) (by omega) rfl (hcs_ones _ _ _ _) rfl rfl rfl hA hB hRd d.l1 d.l2 d.lr d.i0 d.i1 (fun W' hW' => d.CLt W' (under hW hW')) d.CDt CO CN CT' (fun W' hW' => ct W' (under hW hW')) (fun W' => qtrap_any (hcs R pc 0 0) pc 4 p n c W' rfl (hcs_ones _ _ _ _) rfl ⟨_, rfl⟩ ⟨_, rfl⟩ D hD) hD
    exact ⟨_, 2, _, 0, 0, 0, 0, 0, 0, 0, 0, false, 0, dd, stepP o dd CC, stepQ o rfl QQ⟩

set_option maxRecDepth 20000 in
set_option maxHeartbeats 1000000 in
theorem gStore4 {w : World} {R : Nat → Int} {pc : Int} {p : Option Addr} {n c : Nat} {f : Nat → Int} {X I : Int} {rd s1 s2 : Nat} (o : Ok w R pc p n c f) (d : Dec w R pc p n c f X 18 rd s1 s2 I) : Both w R pc p n c f := by
  have hA := hcs_reg R pc 0 0 s1 d.l1
  have hB := hcs_reg R pc 0 0 s2 d.l2
  have hRd := hcs_reg R pc 0 0 rd d.lr
  obtain ⟨a0, a1⟩ := o.hR s1 d.l1
  obtain ⟨b0, b1⟩ := o.hR s2 d.l2
  have p0 := o.p0
  have p1 := o.p1
  have CO := fun W => rOf_any I W
  have CN := fun W => qsum_any pc 4 p0 p1 (by omega) (by omega) W
  have CT := fun W => qsum_any (R s1) (I % 4294967296) a0 a1 (by omega) (by omega) W
  have hone := fun W => honward_any pc p0 p1 W
  have eTH : (R s1 + I % 4294967296) % 4294967296 = (R s1 + I) % 4294967296 := by omega
  have CT' : ∀ W, Calls Tryd.prog 32 #[.int .u32 (R s1), .int .u32 (I % 4294967296)] W fun e w' => e = .returned (.int .u32 ((R s1 + I) % 4294967296)) ∧ w' = W := fun W => by rw [← eTH]; exact CT W
  rcases memStores o 18 ((R s1 + I) % 4294967296) (R s2) 4 rfl (by omega) (by omega) (by omega) b0 b1 with ⟨a, ea, han, cm, ct⟩ | ⟨cm, ct⟩
  · have CW : ∀ W, Calls Tryd.prog 62 #[.int .u32 (R s2), .int .u32 ((4 : Nat) : Int)] W fun e w' => e = .returned (.int .u32 (R s2)) ∧ w' = W := fun W => by
      have h := lowest_any (R s2) 4 (by omega) b0 b1 W
      rwa [show R s2 % p256 4 = R s2 by (show R s2 % 4294967296 = _; omega)] at h
    have dd : Does n ((pc + 4) % 4294967296) 0 0 0 0 0 ((R s1 + I) % 4294967296) 4 a 4 (R s2) := ⟨rfl, ea, rfl, by omega, fun _ => rfl, .inl ⟨rfl, rfl⟩, .inr ⟨by omega, by omega⟩, by omega, by omega⟩
    have CC : ∀ W, Below w.heap.size w W → Calls Tryd.prog 26 #[hv R pc 0 0, .slice p n c] W fun e w' => e = .returned (cv pc ((pc + 4) % 4294967296) 0 0 0 0 ((R s1 + I) % 4294967296) 4 (R s2) false 0) ∧ Below W.heap.size W w' := fun W hW => hcStore18 (hcs R pc 0 0) pc p n c W X I (R s1) (R s2) rd s1 s2 (ccs pc ((pc + 4) % 4294967296) 0 0 0 0 ((R s1 + I) % 4294967296) 4 (R s2) false 0) rfl hA hB d.l1 d.l2 d.lr ⟨rfl, ones_ccs _ _ _ _ _ _ _ _ _ _ _⟩ (fun W' hW' => d.CLm W' (under hW hW')) (fun W' hW' => d.CDm W' (under hW hW')) (fun W' hW' => hstore_yes 18 rd s1 s2 I pc (R s1) (R s2) ((pc + 4) % 4294967296) (R s2) 4 (by omega) p n c a0 a1 W' cm hone CW)
    have QQ : QStep w R pc p n c f ((pc + 4) % 4294967296) 0 0 0 0 0 ((R s1 + I) % 4294967296) 4 a 4 (R s2) false 0 := fun W hW =>
      (qStore4 (hcs R pc 0 0) pc p n c W X I (I % 4294967296) ((pc + 4) % 4294967296) ((R s1 + I) % 4294967296) (R s1) (R s2) (R rd) rd s1 s2 (sto f a (R s2) 4) b0 b1 rfl (hcs_ones _ _ _ _) rfl rfl rfl hA hB hRd d.l1 d.l2 d.lr d.i0 d.i1 (fun W' hW' => d.CLt W' (under hW hW')) d.CDt CO CN CT' (fun W' hW' => ct W' (under hW hW')) (fun W' => tSize_store 18 W')).mono fun e w' ⟨⟨D, h, cap, he, hD, hcap, hF⟩, hb⟩ => ⟨⟨D, some ⟨h, 0, none⟩, cap, he, hD, hcap, Mem.ofFr hF⟩, hb⟩
    exact ⟨_, 0, 0, 0, 0, 0, _, _, a, 4, _, false, 0, dd, stepP o dd CC, QQ⟩
  · have dd : Does n pc 2 4 0 0 0 0 0 0 0 0 := ⟨rfl, rfl, rfl, by omega, fun _ => rfl, .inr (.inr ⟨rfl, by omega, by omega⟩), .inl rfl, by omega, by omega⟩
    have CC : ∀ W, Below w.heap.size w W → Calls Tryd.prog 26 #[hv R pc 0 0, .slice p n c] W fun e w' => e = .returned (cv pc pc 2 4 0 0 0 0 0 false 0) ∧ Below W.heap.size W w' := fun W hW => hcStore18 (hcs R pc 0 0) pc p n c W X I (R s1) (R s2) rd s1 s2 (ccs pc pc 2 4 0 0 0 0 0 false 0) rfl hA hB d.l1 d.l2 d.lr ⟨rfl, ones_ccs _ _ _ _ _ _ _ _ _ _ _⟩ (fun W' hW' => d.CLm W' (under hW hW')) (fun W' hW' => d.CDm W' (under hW hW')) (fun W' hW' => hstore_no 18 rd s1 s2 I pc (R s1) (R s2) p n c a0 a1 W' cm)
    have QQ : ∀ W, Below w.heap.size w W → ∀ D, Hid (Did D (ccs pc pc 2 4 0 0 0 0 0 false 0) (((hcs R pc 0 0).setIfInBounds 33 (.int .i64 2)).setIfInBounds 34 (.int .i64 4)) p n c) → Calls Tryd.prog 15 #[hv R pc 0 0, .slice p n c] W fun e w' => e = .returned (.agg D) ∧ Below W.heap.size W w' := fun W hW D hD => qStoreX (hcs R pc 0 0) pc p n c W X I (I % 4294967296) ((pc + 4) % 4294967296) ((R s1 + I) % 4294967296) (R s1) (R s2) (R rd) rd s1 s2 D 18 (by omega) (by omega) rfl (hcs_ones _ _ _ _) rfl rfl rfl hA hB hRd d.l1 d.l2 d.lr d.i0 d.i1 (fun W' hW' => d.CLt W' (under hW hW')) d.CDt CO CN CT' (fun W' hW' => ct W' (under hW hW')) (fun W' => qtrap_any (hcs R pc 0 0) pc 4 p n c W' rfl (hcs_ones _ _ _ _) rfl ⟨_, rfl⟩ ⟨_, rfl⟩ D hD) hD
    exact ⟨_, 2, _, 0, 0, 0, 0, 0, 0, 0, 0, false, 0, dd, stepP o dd CC, stepQ o rfl QQ⟩

end Go.Proofs.YteadfdcnpfkmkaaDoor
namespace Go.Proofs.YteadfdcnpfkmkaaDoor
open Go.RowKit
open Hy
set_option linter.unusedVariables false

theorem gFetch {w : World} {R : Nat → Int} {pc : Int} {p : Option Addr} {n c : Nat} {f : Nat → Int} (o : Ok w R pc p n c f) (cm : ∀ W, Below w.heap.size w W → Calls Tryd.prog 43 #[.slice p n c, .int .i64 13, .int .u32 pc] W fun e w' => e = .returned (.tuple #[.int .u32 0, .bool false]) ∧ w' = W)
    (ct : ∀ W, Below w.heap.size w W → Calls Tryd.prog 29 #[.slice p n c, .int .i64 13, .int .u32 pc] W fun e w' => e = .returned (.tuple #[.int .u32 0, .bool false]) ∧ w' = W) : Both w R pc p n c f := by
  have dd : Does n pc 2 1 0 0 0 0 0 0 0 0 := ⟨rfl, rfl, rfl, by omega, fun _ => rfl, .inr (.inr ⟨rfl, by omega, by omega⟩), .inl rfl, by omega, by omega⟩
  have CC : ∀ W, Below w.heap.size w W → Calls Tryd.prog 26 #[hv R pc 0 0, .slice p n c] W fun e w' => e = .returned (cv pc pc 2 1 0 0 0 0 0 false 0) ∧ Below W.heap.size W w' := fun W hW => hcFetch (hcs R pc 0 0) pc 0 p n c W rfl (fun W' hW' => cm W' (under hW hW'))
  have QQ : ∀ W, Below w.heap.size w W → ∀ D, Hid (Did D (ccs pc pc 2 1 0 0 0 0 0 false 0) (((hcs R pc 0 0).setIfInBounds 33 (.int .i64 2)).setIfInBounds 34 (.int .i64 1)) p n c) → Calls Tryd.prog 15 #[hv R pc 0 0, .slice p n c] W fun e w' => e = .returned (.agg D) ∧ Below W.heap.size W w' := fun W hW D hD => qFetch (hcs R pc 0 0) pc p n c W 0 D rfl rfl (fun W' hW' => ct W' (under hW hW')) (fun W' => qtrap_any (hcs R pc 0 0) pc 1 p n c W' rfl (hcs_ones _ _ _ _) rfl ⟨_, rfl⟩ ⟨_, rfl⟩ D hD) hD
  exact ⟨_, 2, _, 0, 0, 0, 0, 0, 0, 0, 0, false, 0, dd, stepP o dd CC, stepQ o rfl QQ⟩

theorem gWord {w : World} {R : Nat → Int} {pc : Int} {p : Option Addr} {n c : Nat} {f : Nat → Int} {X : Int} (o : Ok w R pc p n c f) (cm : ∀ W, Below w.heap.size w W → Calls Tryd.prog 43 #[.slice p n c, .int .i64 13, .int .u32 pc] W fun e w' => e = .returned (.tuple #[.int .u32 X, .bool true]) ∧ w' = W)
    (ct : ∀ W, Below w.heap.size w W → Calls Tryd.prog 29 #[.slice p n c, .int .i64 13, .int .u32 pc] W fun e w' => e = .returned (.tuple #[.int .u32 X, .bool true]) ∧ w' = W)
    (x0 : 0 ≤ X) (x1 : X ≤ 4294967295) (hf : ∀ m, 1 ≤ m → m ≤ 48 → hit m X = false) : Both w R pc p n c f := by
  have h0 := o.hT.size
  have dd : Does n pc 2 2 0 0 0 0 0 0 0 0 := ⟨rfl, rfl, rfl, by omega, fun _ => rfl, .inr (.inr ⟨rfl, by omega, by omega⟩), .inl rfl, by omega, by omega⟩
  have CC : ∀ W, Below w.heap.size w W → Calls Tryd.prog 26 #[hv R pc 0 0, .slice p n c] W fun e w' => e = .returned (cv pc pc 2 2 0 0 0 0 0 false 0) ∧ Below W.heap.size W w' := fun W hW => hcWord (hcs R pc 0 0) pc X p n c W rfl (fun W' hW' => cm W' (under hW hW')) (fun W' hW' => Decode_none X x0 x1 hf W' (o.hT.below (under hW hW') h0))
  have QQ : ∀ W, Below w.heap.size w W → ∀ D, Hid (Did D (ccs pc pc 2 2 0 0 0 0 0 false 0) (((hcs R pc 0 0).setIfInBounds 33 (.int .i64 2)).setIfInBounds 34 (.int .i64 2)) p n c) → Calls Tryd.prog 15 #[hv R pc 0 0, .slice p n c] W fun e w' => e = .returned (.agg D) ∧ Below W.heap.size W w' := fun W hW D hD => qWord (hcs R pc 0 0) pc p n c W X D rfl rfl (fun W' hW' => ct W' (under hW hW')) (fun W' => rDecode_none X x0 x1 hf W') (fun W' => qtrap_any (hcs R pc 0 0) pc 2 p n c W' rfl (hcs_ones _ _ _ _) rfl ⟨_, rfl⟩ ⟨_, rfl⟩ D hD) hD
  exact ⟨_, 2, _, 0, 0, 0, 0, 0, 0, 0, 0, false, 0, dd, stepP o dd CC, stepQ o rfl QQ⟩

/-- Both Steps do the same, whatever lies at the hart's place. -/
theorem both {w : World} {R : Nat → Int} {pc : Int} {p : Option Addr} {n c : Nat} {f : Nat → Int} (o : Ok w R pc p n c f) : Both w R pc p n c f := by
  have h0 := o.hT.size
  rcases memLoads o 13 pc o.p0 o.p1 with ⟨X, hx, cm, ct⟩ | ⟨cm, ct⟩
  · obtain ⟨x0, x1⟩ := hx rfl
    rcases dec_cases X with ⟨m, m1, m2, hm, hmf⟩ | hnone
    · obtain ⟨I, HI⟩ : ∃ I, Hid (I = rim (fm (kn m)) X) := ⟨_, rfl⟩
      obtain ⟨rd, Hrd⟩ : ∃ rd : Nat, Hid ((rd : Int) = rrg X 128 (fm (kn m) 1)) := ⟨(rrg X 128 (fm (kn m) 1)).toNat, Int.toNat_of_nonneg (rd_rng m (by omega) X x0 x1).1⟩
      obtain ⟨s1, Hs1⟩ : ∃ s1 : Nat, Hid ((s1 : Int) = rrg X 32768 (fm (kn m) 2)) := ⟨(rrg X 32768 (fm (kn m) 2)).toNat, Int.toNat_of_nonneg (rs1_rng m (by omega) X x0 x1).1⟩
      obtain ⟨s2, Hs2⟩ : ∃ s2 : Nat, Hid ((s2 : Int) = rrg X 1048576 (fm (kn m) 3)) := ⟨(rrg X 1048576 (fm (kn m) 3)).toNat, Int.toNat_of_nonneg (rs2_rng m (by omega) X x0 x1).1⟩
      have d : Dec w R pc p n c f X m rd s1 s2 I := ⟨cm, ct, fun W hW => Decode_v X m x0 x1 m1 m2 hm hmf m rd s1 s2 I ⟨rfl, Hrd.out, Hs1.out, Hs2.out, HI.out⟩ W (o.hT.below hW h0), fun W => rDecode_v X m x0 x1 m1 m2 hm m rd s1 s2 I ⟨rfl, Hrd.out, Hs1.out, Hs2.out, HI.out⟩ W,
        by have := (rd_rng m (by omega) X x0 x1).2; rw [← Hrd.out] at this; omega, by have := (rs1_rng m (by omega) X x0 x1).2; rw [← Hs1.out] at this; omega, by have := (rs2_rng m (by omega) X x0 x1).2; rw [← Hs2.out] at this; omega,
        by rw [HI.out]; exact (imm_rng m m1 m2 X x0 x1).1, by rw [HI.out]; exact (imm_rng m m1 m2 X x0 x1).2⟩
      by_cases c1 : m ≤ 4
      · rcases (by omega : m = 1 ∨ m = 2 ∨ m = 3 ∨ m = 4) with rfl | rfl | rfl | rfl
        · exact gLui o d
        · exact gAuipc o d
        · exact gJal o d
        · exact gJalr o d
      by_cases c2 : m ≤ 10
      · refine gBranch o (by omega) c2 ?_ d
        have := Hrd.out
        rw [rd_branch m (by omega) c2 X x0 x1] at this
        omega
      by_cases c3 : m ≤ 18
      · rcases (by omega : m = 11 ∨ m = 12 ∨ m = 13 ∨ m = 14 ∨ m = 15 ∨ m = 16 ∨ m = 17 ∨ m = 18) with rfl | rfl | rfl | rfl | rfl | rfl | rfl | rfl
        · exact gLoad11 o d
        · exact gLoad12 o d
        · exact gLoad13 o d
        · exact gLoad14 o d
        · exact gLoad15 o d
        · exact gStore1 o d
        · exact gStore2 o d
        · exact gStore4 o d
      by_cases c4 : m ≤ 27
      · exact gImm o (by omega) c4 d
      by_cases c5 : m ≤ 45
      · exact gReg o (by omega) c5 d
      rcases (by omega : m = 46 ∨ m = 47 ∨ m = 48) with rfl | rfl | rfl
      · exact gFence o d
      · exact gCall o d
      · exact gBreak o d
    · exact gWord o cm ct x0 x1 hnone
  · exact gFetch o cm ct
end Go.Proofs.YteadfdcnpfkmkaaDoor
