/- Fields of an instruction in their ranges; a hart's cells with some of them written; what both Steps answer, alike. -/
import Derived.Test.YtpiohehijkpghaaDoorMemA
import Derived.Test.YtpiohehijkpghaaDoorHartM
import Derived.Test.YtpiohehijkpghaaDoorRefT
namespace Go.Proofs.YtpiohehijkpghaaDoor
open Go.RowKit
open Hy
set_option linter.unusedVariables false

theorem fits_iff0 {n : Nat} {x m : Int} : fits n x m = true ↔ 0 ≤ x ∧ x % m = 0 ∧ x + m ≤ n := by unfold fits; simp
theorem ldn_not {op : Int} (h : op < 11 ∨ 15 < op) : ldn op = 0 := by
  unfold ldn
  rw [if_neg (by omega), if_neg (by omega), if_neg (by omega)]
theorem allW_not (n : Nat) (f : Nat → Int) (i : In) (pc a b : Int) (h : i.op < 11 ∨ 15 < i.op) : allW n f i pc a b = doW i pc a b n := by
  unfold allW
  exact if_neg (fun h' => h' (ldn_not h))
theorem allW_rest (n : Nat) (f : Nat → Int) (i : In) (pc a b : Int) (h1 : 1 ≤ i.op) (h2 : i.op < 46) (h3 : i.op < 11 ∨ 18 < i.op) : allW n f i pc a b = giveC pc (nxW i pc a b) i.rd (rkW i pc a b) := by
  rw [allW_not n f i pc a b (by omega)]
  unfold doW
  have hs : ¬ sts i = true := by unfold sts; simp; omega
  rw [if_neg hs, if_neg (by omega), if_neg (by omega), if_neg (by omega)]
theorem giveC_no (pc nx v : Int) {rd : Nat} (h : rd = 0) : giveC pc nx rd v = ⟨pc, nx, 0, 0, 0, 0, 0, 0, 0, false, 0⟩ := by subst h; rfl
theorem giveC_yes (pc nx v : Int) {rd : Nat} (h : ¬ rd = 0) : giveC pc nx rd v = ⟨pc, nx, 0, 0, rd, v, 0, 0, 0, false, 0⟩ := by unfold giveC; rw [if_neg h]
theorem onC_no (pc v : Int) {rd : Nat} (h : rd = 0) : onC pc rd v = ⟨pc, (pc + 4) % 4294967296, 0, 0, 0, 0, 0, 0, 0, false, 0⟩ := by subst h; rfl
theorem onC_yes (pc v : Int) {rd : Nat} (h : ¬ rd = 0) : onC pc rd v = ⟨pc, (pc + 4) % 4294967296, 0, 0, rd, v, 0, 0, 0, false, 0⟩ := by unfold onC; rw [if_neg h]
theorem nxW_jal (i : In) (pc a b : Int) (h : i.op = 3) : nxW i pc a b = (pc + i.im % 4294967296) % 4294967296 := by unfold nxW; rw [if_pos h]
theorem nxW_jalr (i : In) (pc a b : Int) (h : i.op = 4) : nxW i pc a b = (a + i.im % 4294967296) % 4294967296 - (a + i.im % 4294967296) % 4294967296 % 2 := by unfold nxW; rw [if_neg (by omega), if_pos h]
theorem nxW_go (i : In) (pc a b : Int) (h3 : i.op ≠ 3) (h4 : i.op ≠ 4) (h : holds i.op a b = true) : nxW i pc a b = (pc + i.im % 4294967296) % 4294967296 := by unfold nxW; rw [if_neg h3, if_neg h4, if_pos h]
theorem nxW_on (i : In) (pc a b : Int) (h3 : i.op ≠ 3) (h4 : i.op ≠ 4) (h : holds i.op a b = false) : nxW i pc a b = (pc + 4) % 4294967296 := by unfold nxW; rw [if_neg h3, if_neg h4, if_neg (by rw [h]; decide)]
theorem rkW_lui (i : In) (pc a b : Int) (h : i.op = 1) : rkW i pc a b = i.im % 4294967296 := by unfold rkW; rw [if_pos h]
theorem rkW_auipc (i : In) (pc a b : Int) (h : i.op = 2) : rkW i pc a b = (pc + i.im % 4294967296) % 4294967296 := by unfold rkW; rw [if_neg (by omega), if_pos h]
theorem rkW_link (i : In) (pc a b : Int) (h : i.op = 3 ∨ i.op = 4) : rkW i pc a b = (pc + 4) % 4294967296 := by unfold rkW; rw [if_neg (by omega), if_neg (by omega), if_pos h]
theorem rkW_imm (i : In) (pc a b : Int) (h : 19 ≤ i.op ∧ i.op ≤ 27) : rkW i pc a b = alu (opn i.op) a (i.im % 4294967296) := by unfold rkW; rw [if_neg (by omega), if_neg (by omega), if_neg (by omega), if_pos h]
theorem rkW_reg (i : In) (pc a b : Int) (h : 5 ≤ i.op) (h' : ¬ (19 ≤ i.op ∧ i.op ≤ 27)) : rkW i pc a b = alu i.op a b := by unfold rkW; rw [if_neg (by omega), if_neg (by omega), if_neg (by omega), if_neg h']
theorem loadC_yes (n : Nat) (f : Nat → Int) (op : Int) (rd s1 s2 : Nat) (I pc a : Int) (q : Nat) (hq : (a + I) % 4294967296 = (q : Int)) (ho : 0 < ldn op ∧ (q : Int) % ldn op = 0 ∧ (q : Int) + ldn op ≤ n) : loadC n f ⟨op, rd, s1, s2, I⟩ pc a = onC pc rd (ldv op (fun i => f (q + i))) := by
  have hpl : place ⟨op, rd, s1, s2, I⟩ a = (q : Int) := hq
  unfold loadC
  rw [hpl, if_pos (fits_iff0.2 ⟨by omega, ho.2⟩)]
  rfl
theorem loadC_no (n : Nat) (f : Nat → Int) (op : Int) (rd s1 s2 : Nat) (I pc a : Int) (q : Nat) (hq : (a + I) % 4294967296 = (q : Int)) (h0 : 0 < ldn op) (ho : ¬ (0 < ldn op ∧ (q : Int) % ldn op = 0 ∧ (q : Int) + ldn op ≤ n)) : loadC n f ⟨op, rd, s1, s2, I⟩ pc a = trapC pc 3 := by
  have hpl : place ⟨op, rd, s1, s2, I⟩ a = (q : Int) := hq
  unfold loadC
  rw [hpl, if_neg (fun h => ho ⟨h0, (fits_iff0.1 h).2⟩)]
theorem allW_load (n : Nat) (f : Nat → Int) (i : In) (pc a b : Int) (h : 0 < ldn i.op) : allW n f i pc a b = loadC n f i pc a := by
  unfold allW
  exact if_pos (by omega)
theorem doW_sto_yes (n : Nat) (op : Int) (rd s1 s2 : Nat) (I pc a b : Int) (q : Nat) (hs : 16 ≤ op ∧ op ≤ 18) (hq : (a + I) % 4294967296 = (q : Int)) (ho : 0 < stn op ∧ (q : Int) % stn op = 0 ∧ (q : Int) + stn op ≤ n) : doW ⟨op, rd, s1, s2, I⟩ pc a b n = ⟨pc, (pc + 4) % 4294967296, 0, 0, 0, 0, (a + I) % 4294967296, stn op, b % p256 (stn op).toNat, false, 0⟩ := by
  have hpl : place ⟨op, rd, s1, s2, I⟩ a = (q : Int) := hq
  have hs : sts ⟨op, rd, s1, s2, I⟩ = true := by unfold sts; simpa using hs
  unfold doW
  rw [if_pos hs, if_pos (fits_iff0.2 (by rw [hpl]; exact ⟨by omega, ho.2⟩))]
  rfl
theorem doW_sto_no (n : Nat) (op : Int) (rd s1 s2 : Nat) (I pc a b : Int) (q : Nat) (hs : 16 ≤ op ∧ op ≤ 18) (hq : (a + I) % 4294967296 = (q : Int)) (h0 : 0 < stn op) (ho : ¬ (0 < stn op ∧ (q : Int) % stn op = 0 ∧ (q : Int) + stn op ≤ n)) : doW ⟨op, rd, s1, s2, I⟩ pc a b n = trapC pc 4 := by
  have hpl : place ⟨op, rd, s1, s2, I⟩ a = (q : Int) := hq
  have hs : sts ⟨op, rd, s1, s2, I⟩ = true := by unfold sts; simpa using hs
  unfold doW
  rw [if_pos hs, if_neg (fun h => ho (by rw [hpl] at h; exact ⟨h0, (fits_iff0.1 h).2⟩))]
theorem doW_call (n rd s1 s2 : Nat) (I pc a b : Int) : doW ⟨47, rd, s1, s2, I⟩ pc a b n = if a = 0 then ⟨pc, pc, 1, 0, 0, 0, 0, 0, 0, false, 0⟩ else if a = 1 then ⟨pc, (pc + 4) % 4294967296, 0, 0, 0, 0, 0, 0, 0, true, b⟩ else trapC pc 5 := rfl
theorem doW_fence (n rd s1 s2 : Nat) (I pc a b : Int) : doW ⟨46, rd, s1, s2, I⟩ pc a b n = ⟨pc, (pc + 4) % 4294967296, 0, 0, 0, 0, 0, 0, 0, false, 0⟩ := rfl
theorem doW_break (n rd s1 s2 : Nat) (I pc a b : Int) : doW ⟨48, rd, s1, s2, I⟩ pc a b n = trapC pc 6 := rfl
end Go.Proofs.YtpiohehijkpghaaDoor
namespace Go.Proofs.YtpiohehijkpghaaDoor
open Go.RowKit
open Hy
set_option linter.unusedVariables false

theorem fm1 : ∀ m, m < 49 → (fm (kn m) 1 = 31 ∨ fm (kn m) 1 = 0) := by decide
theorem fm2 : ∀ m, m < 49 → (fm (kn m) 2 = 31 ∨ fm (kn m) 2 = 0) := by decide
theorem fm3 : ∀ m, m < 49 → (fm (kn m) 3 = 31 ∨ fm (kn m) 3 = 0) := by decide
theorem fm1b : ∀ m, m < 11 → 5 ≤ m → fm (kn m) 1 = 0 := by decide

theorem rd_rng (m : Nat) (hm : m < 49) (x : Int) (x0 : 0 ≤ x) (x1 : x ≤ 4294967295) : 0 ≤ rrg x 128 (fm (kn m) 1) ∧ rrg x 128 (fm (kn m) 1) < 32 := by
  rcases fm1 m hm with h | h
  · rw [h, rrg_7 x x0 (by omega)]; omega
  · rw [h, rrg_7z x x0 (by omega)]; omega
theorem rs1_rng (m : Nat) (hm : m < 49) (x : Int) (x0 : 0 ≤ x) (x1 : x ≤ 4294967295) : 0 ≤ rrg x 32768 (fm (kn m) 2) ∧ rrg x 32768 (fm (kn m) 2) < 32 := by
  rcases fm2 m hm with h | h
  · rw [h, rrg_15 x x0 (by omega)]; omega
  · rw [h, rrg_15z x x0 (by omega)]; omega
theorem rs2_rng (m : Nat) (hm : m < 49) (x : Int) (x0 : 0 ≤ x) (x1 : x ≤ 4294967295) : 0 ≤ rrg x 1048576 (fm (kn m) 3) ∧ rrg x 1048576 (fm (kn m) 3) < 32 := by
  rcases fm3 m hm with h | h
  · rw [h, rrg_20 x x0 (by omega)]; omega
  · rw [h, rrg_20z x x0 (by omega)]; omega
theorem rd_branch (m : Nat) (h0 : 5 ≤ m) (h1 : m ≤ 10) (x : Int) (x0 : 0 ≤ x) (x1 : x ≤ 4294967295) : rrg x 128 (fm (kn m) 1) = 0 := by
  rw [fm1b m (by omega) h0, rrg_7z x x0 (by omega)]

theorem imm_rng (m : Nat) (hm0 : 1 ≤ m) (hm : m ≤ 48) (x : Int) (x0 : 0 ≤ x) (x1 : x ≤ 4294967295) : -2147483648 ≤ rim (fm (kn m)) x ∧ rim (fm (kn m)) x ≤ 2147483647 := by
  obtain ⟨h9, _, h1⟩ := kn_lt m (by omega)
  have h1' : 1 ≤ kn m := by first | exact h1 hm0 | exact h1
  generalize kn m = F at h9 h1'
  have x2 : x < 4294967296 := by omega
  rcases (by omega : F = 1 ∨ F = 2 ∨ F = 3 ∨ F = 4 ∨ F = 5 ∨ F = 6 ∨ F = 7 ∨ F = 8) with rfl | rfl | rfl | rfl | rfl | rfl | rfl | rfl
  · rw [rim_U x x0 x2]; unfold sx; split <;> omega
  · rw [rim_J x x0 x2]; unfold sx; split <;> omega
  · rw [rim_I x x0 x2]; unfold sx; split <;> omega
  · rw [rim_H x x0 x2]; omega
  · rw [rim_B x x0 x2]; unfold sx; split <;> omega
  · rw [rim_S x x0 x2]; unfold sx; split <;> omega
  · rw [rim_R x x0 x2]; omega
  · rw [rim_E x x0 x2]; omega

/-- The registers with one of them written, but for register 0. -/
def upd (R : Nat → Int) (rd : Nat) (v : Int) (j : Nat) : Int := if rd = 0 then R j else if j = rd then v else R j

theorem set32 (R : Nat → Int) (pc st ca x : Int) : (hcs R pc st ca).setIfInBounds 32 (.int .u32 x) = hcs R x st ca := rfl
theorem set33 (R : Nat → Int) (pc st ca x : Int) : (hcs R pc st ca).setIfInBounds 33 (.int .i64 x) = hcs R pc x ca := rfl
theorem set34 (R : Nat → Int) (pc st ca x : Int) : (hcs R pc st ca).setIfInBounds 34 (.int .i64 x) = hcs R pc st x := rfl
theorem upd0 (R : Nat → Int) (v : Int) : upd R 0 v = R := rfl
theorem setRd (R : Nat → Int) (pc st ca v : Int) (rd : Nat) (h0 : rd ≠ 0) (lr : rd < 32) : (hcs R pc st ca).setIfInBounds rd (.int .u32 v) = hcs (upd R rd v) pc st ca :=
  match rd, h0, lr with
  | 0, h, _ => absurd rfl h
  | 1, _, _ => rfl
  | 2, _, _ => rfl
  | 3, _, _ => rfl
  | 4, _, _ => rfl
  | 5, _, _ => rfl
  | 6, _, _ => rfl
  | 7, _, _ => rfl
  | 8, _, _ => rfl
  | 9, _, _ => rfl
  | 10, _, _ => rfl
  | 11, _, _ => rfl
  | 12, _, _ => rfl
  | 13, _, _ => rfl
  | 14, _, _ => rfl
  | 15, _, _ => rfl
  | 16, _, _ => rfl
  | 17, _, _ => rfl
  | 18, _, _ => rfl
  | 19, _, _ => rfl
  | 20, _, _ => rfl
  | 21, _, _ => rfl
  | 22, _, _ => rfl
  | 23, _, _ => rfl
  | 24, _, _ => rfl
  | 25, _, _ => rfl
  | 26, _, _ => rfl
  | 27, _, _ => rfl
  | 28, _, _ => rfl
  | 29, _, _ => rfl
  | 30, _, _ => rfl
  | 31, _, _ => rfl
  | n + 32, _, h => absurd h (by omega)
theorem hcs_size (R : Nat → Int) (pc st ca : Int) : (hcs R pc st ca).size = 35 := rfl
theorem hcs_ones (R : Nat → Int) (pc st ca : Int) : Ones (hcs R pc st ca) := by unfold Ones; simp [Value.oneCell']
theorem hcs_reg (R : Nat → Int) (pc st ca : Int) (j : Nat) (hj : j < 32) : (hcs R pc st ca)[j]? = some (.int .u32 (R j)) :=
  match j, hj with
  | 0, _ => rfl
  | 1, _ => rfl
  | 2, _ => rfl
  | 3, _ => rfl
  | 4, _ => rfl
  | 5, _ => rfl
  | 6, _ => rfl
  | 7, _ => rfl
  | 8, _ => rfl
  | 9, _ => rfl
  | 10, _ => rfl
  | 11, _ => rfl
  | 12, _ => rfl
  | 13, _ => rfl
  | 14, _ => rfl
  | 15, _ => rfl
  | 16, _ => rfl
  | 17, _ => rfl
  | 18, _ => rfl
  | 19, _ => rfl
  | 20, _ => rfl
  | 21, _ => rfl
  | 22, _ => rfl
  | 23, _ => rfl
  | 24, _ => rfl
  | 25, _ => rfl
  | 26, _ => rfl
  | 27, _ => rfl
  | 28, _ => rfl
  | 29, _ => rfl
  | 30, _ => rfl
  | 31, _ => rfl
  | n + 32, h => absurd h (by omega)

/-- What both Steps start from: a hart that runs, and bytes. -/
structure Ok (w : World) (R : Nat → Int) (pc : Int) (p : Option Addr) (n c : Nat) (f : Nat → Int) : Prop where
  r0 : R 0 = 0
  hR : ∀ i, i < 32 → 0 ≤ R i ∧ R i ≤ 4294967295
  p0 : 0 ≤ pc
  p1 : pc ≤ 4294967295
  hn : n ≤ 4096
  hnc : n ≤ c
  hm : Mem w p n f
  hf : ∀ i, i < n → 0 ≤ f i ∧ f i ≤ 255
  hT : Tab w
  hT2 : Tab2 w

/-- What an instruction does, in numbers that may be. -/
structure Does (n : Nat) (next st ca ri : Int) (rd : Nat) (v ai mi : Int) (a m : Nat) (data : Int) : Prop where
  er : ri = (rd : Int)
  ea : ai = (a : Int)
  em : mi = (m : Int)
  lr : rd < 32
  hv : rd = 0 → v = 0
  hs : (st = 0 ∧ ca = 0) ∨ (st = 1 ∧ ca = 0) ∨ (st = 2 ∧ 1 ≤ ca ∧ ca ≤ 6)
  hm : m = 0 ∨ ((m = 1 ∨ m = 2 ∨ m = 4) ∧ a + m ≤ n)
  d0 : 0 ≤ data
  d1 : data ≤ 4294967295
  n0 : 0 ≤ next
  n1 : next ≤ 4294967295
  v0 : 0 ≤ v
  v1 : v ≤ 4294967295

def PStep (w : World) (R : Nat → Int) (pc : Int) (p : Option Addr) (n c : Nat) (f : Nat → Int) (next st ca ri : Int) (rd : Nat) (v ai mi : Int) (a m : Nat) (data : Int) (out : Bool) (told : Int) : Prop :=
  ∀ W, Below w.heap.size w W → Calls Tryd.prog 17 #[hv R pc 0 0, .slice p n c] W fun e w' => (∃ p' cap, e = .returned (.tuple #[cv pc next st ca ri v ai mi data out told, hv (upd R rd v) next st ca, .slice p' n cap, .bool true]) ∧ n ≤ cap ∧ Own w' W.heap.size p' n (sto f a data m)) ∧ Below W.heap.size W w'
def QStep (w : World) (R : Nat → Int) (pc : Int) (p : Option Addr) (n c : Nat) (f : Nat → Int) (next st ca ri : Int) (rd : Nat) (v ai mi : Int) (a m : Nat) (data : Int) (out : Bool) (told : Int) : Prop :=
  ∀ W, Below w.heap.size w W → Calls Tryd.prog 18 #[hv R pc 0 0, .slice p n c] W fun e w' => (∃ D p' cap, e = .returned (.agg D) ∧ Did D (ccs pc next st ca ri v ai mi data out told) (hcs (upd R rd v) next st ca) p' n cap ∧ n ≤ cap ∧ Mem w' p' n (sto f a data m)) ∧ Below W.heap.size W w'
/-- And where the bytes lie that it answers: where they lay, or in a block of its own. -/
def QStepS (w : World) (R : Nat → Int) (pc : Int) (p : Option Addr) (n c : Nat) (f : Nat → Int) (next st ca ri : Int) (rd : Nat) (v ai mi : Int) (a m : Nat) (data : Int) (out : Bool) (told : Int) : Prop :=
  ∀ W, Below w.heap.size w W → Calls Tryd.prog 18 #[hv R pc 0 0, .slice p n c] W fun e w' => (∃ D p' cap, e = .returned (.agg D) ∧ Did D (ccs pc next st ca ri v ai mi data out told) (hcs (upd R rd v) next st ca) p' n cap ∧ n ≤ cap ∧ Mem w' p' n (sto f a data m) ∧ (p' = p ∨ ∃ h, p' = some ⟨h, 0, none⟩)) ∧ Below W.heap.size W w'
/-- Both Steps do the same. -/
def Both (w : World) (R : Nat → Int) (pc : Int) (p : Option Addr) (n c : Nat) (f : Nat → Int) : Prop :=
  ∃ (next st ca ri : Int) (rd : Nat) (v ai mi : Int) (a m : Nat) (data : Int) (out : Bool) (told : Int), Does n next st ca ri rd v ai mi a m data ∧ PStep w R pc p n c f next st ca ri rd v ai mi a m data out told ∧ QStep w R pc p n c f next st ca ri rd v ai mi a m data out told

/-- The numbers alone of what both Steps start from. -/
structure Rng (R : Nat → Int) (pc : Int) (n : Nat) (f : Nat → Int) : Prop where
  r0 : R 0 = 0
  hR : ∀ i, i < 32 → 0 ≤ R i ∧ R i ≤ 4294967295
  p0 : 0 ≤ pc
  p1 : pc ≤ 4294967295
  hn : n ≤ 4096
  hf : ∀ i, i < n → 0 ≤ f i ∧ f i ≤ 255
theorem Ok.rng {w : World} {R : Nat → Int} {pc : Int} {p : Option Addr} {n c : Nat} {f : Nat → Int} (o : Ok w R pc p n c f) : Rng R pc n f := ⟨o.r0, o.hR, o.p0, o.p1, o.hn, o.hf⟩
/-- Both Steps do the same, wherever the bytes lie: what is told. -/
def All (R : Nat → Int) (pc : Int) (n : Nat) (f : Nat → Int) (C : Cm) : Prop :=
  ∃ (next st ca ri : Int) (rd : Nat) (v ai mi : Int) (a m : Nat) (data : Int) (out : Bool) (told : Int), C = ⟨pc, next, st, ca, rd, v, ai, mi, data, out, told⟩ ∧ Does n next st ca ri rd v ai mi a m data ∧ ∀ w p c, Ok w R pc p n c f → PStep w R pc p n c f next st ca ri rd v ai mi a m data out told ∧ QStepS w R pc p n c f next st ca ri rd v ai mi a m data out told

theorem sto0 (f : Nat → Int) (a : Nat) (W : Int) : sto f a W 0 = f := by
  funext i
  unfold sto
  rw [if_neg (by omega)]

theorem under {w W W' : World} (h : Below w.heap.size w W) (h' : Below W.heap.size W W') : Below w.heap.size w W' := h.trans (h'.mono h.size)

theorem stepP {w : World} {R : Nat → Int} {pc : Int} {p : Option Addr} {n c : Nat} {f : Nat → Int} (o : Ok w R pc p n c f) {next st ca ri : Int} {rd : Nat} {v ai mi : Int} {a m : Nat} {data : Int} {out : Bool} {told : Int} (d : Does n next st ca ri rd v ai mi a m data)
    (CC : ∀ W, Below w.heap.size w W → Calls Tryd.prog 33 #[hv R pc 0 0, .slice p n c] W fun e w' => e = .returned (cv pc next st ca ri v ai mi data out told) ∧ Below W.heap.size W w') :
    PStep w R pc p n c f next st ca ri rd v ai mi a m data out told := by
  obtain ⟨er, ea, em, lr, hv0, hs, hm, d0, d1, _, _, _, _⟩ := d
  subst er ea em
  intro W hW
  refine hStep_yes (hcs R pc 0 0) (hcs (upd R rd v) next st ca) (ccs pc next st ca rd v a m data out told) pc p n c (sto f a data m) o.hn W rfl ⟨rfl, hcs_ones _ _ _ _⟩ ⟨rfl, ones_ccs _ _ _ _ _ _ _ _ _ _ _⟩ rfl (fun W' => ?_) (fun W' hW' => CC W' (under hW hW')) (fun W' => ?_) (fun W' hW' => ?_)
  · refine (hMay_any (hcs R pc 0 0) (R 0) 0 0 rfl rfl rfl W').mono fun e w' ⟨he, hb⟩ => ⟨?_, hb⟩
    rw [he, o.r0]
    rfl
  · by_cases h0 : rd = 0
    · subst h0
      exact hbehind_0 (hcs R pc 0 0) pc next st ca v a m data told out rfl (hcs_ones _ _ _ _) ⟨_, rfl⟩ ⟨_, rfl⟩ ⟨_, rfl⟩ W'
    · refine (hbehind_1 (hcs R pc 0 0) pc next st ca v a m data told rd (R rd) out rfl (hcs_ones _ _ _ _) ⟨_, rfl⟩ ⟨_, rfl⟩ ⟨_, rfl⟩ (hcs_reg _ _ _ _ _ lr) lr (by simp; omega) W').mono fun e w' ⟨he, hb⟩ => ⟨?_, hb⟩
      rw [he, set32, set33, set34, setRd _ _ _ _ _ _ h0 lr]
  · have hM := o.hm.below (under hW hW')
    rcases hm with rfl | ⟨hm, ham⟩
    · rw [sto0]
      exact hlaid_0 p n c f o.hn pc next st ca rd v a data told out W' hM
    · obtain ⟨g, q, rfl, hl⟩ := hM (by omega)
      exact hlaid_m g q n c f o.hn a m hm ham data d0 d1 pc next st ca rd v told out W' hl

theorem stepQ {w : World} {R : Nat → Int} {pc : Int} {p : Option Addr} {n c : Nat} {f : Nat → Int} (o : Ok w R pc p n c f) {next st ca ri : Int} {rd : Nat} {v : Int} {out : Bool} {told : Int} {H' : Array Value} (hH : H' = hcs (upd R rd v) next st ca)
    (hq : ∀ W, Below w.heap.size w W → ∀ D, Hid (Did D (ccs pc next st ca ri v 0 0 0 out told) H' p n c) → Calls Tryd.prog 18 #[hv R pc 0 0, .slice p n c] W fun e w' => e = .returned (.agg D) ∧ Below W.heap.size W w') :
    QStepS w R pc p n c f next st ca ri rd v 0 0 0 0 0 out told := by
  intro W hW
  have hD : Did (ccs pc next st ca ri v 0 0 0 out told ++ H' ++ #[.slice p n c]) (ccs pc next st ca ri v 0 0 0 out told) H' p n c := ⟨rfl, rfl, by rw [hH]; rfl, ones_ccs _ _ _ _ _ _ _ _ _ _ _, by rw [hH]; exact hcs_ones _ _ _ _⟩
  refine (hq W hW _ hD).mono fun e w' ⟨he, hb⟩ => ⟨⟨_, p, c, he, ?_, o.hnc, ?_, .inl rfl⟩, hb⟩
  · rw [← hH]
    exact hD
  · rw [sto0]
    exact o.hm.below (under hW hb)

/-- The first instruction that a word is told to be. -/
def dcdN (X : Int) : Nat → Option Nat
  | 0 => none
  | k + 1 => match dcdN X k with
    | some m => some m
    | none => if hit (k + 1) X = true then some (k + 1) else none
theorem dcdN_none (X : Int) : ∀ k, (∀ m, 1 ≤ m → m ≤ k → hit m X = false) → dcdN X k = none
  | 0, _ => rfl
  | k + 1, h => by
    unfold dcdN
    rw [dcdN_none X k (fun m h1 h2 => h m h1 (by omega))]
    simp only []
    rw [h (k + 1) (by omega) (Nat.le_refl _)]
    rfl
theorem dcdN_some (X : Int) (n : Nat) (h1 : 1 ≤ n) (hn : hit n X = true) (hf : ∀ m, 1 ≤ m → m < n → hit m X = false) : ∀ k, n ≤ k → dcdN X k = some n
  | 0, h => absurd h (by omega)
  | k + 1, h => by
    unfold dcdN
    by_cases e : n = k + 1
    · subst e
      rw [dcdN_none X k (fun m a b => hf m a (by omega))]
      simp only [hn, if_true]
    · rw [dcdN_some X n h1 hn hf k (by omega)]
/-- The instruction of a word. -/
def dcdW (X : Int) : Option In := match dcdN X 48 with
  | some m => some ⟨m, (rrg X 128 (fm (kn m) 1)).toNat, (rrg X 32768 (fm (kn m) 2)).toNat, (rrg X 1048576 (fm (kn m) 3)).toNat, rim (fm (kn m)) X⟩
  | none => none
/-- What is read at a place; what one step does. -/
def fetW (n : Nat) (f : Nat → Int) (pc : Int) : In × Int :=
  if fits n pc 4 then (match dcdW (le (fun k => f (pc.toNat + k)) 4) with
    | some i => (i, 0)
    | none => (zin, 2)) else (zin, 1)
def stepW (n : Nat) (R : Nat → Int) (pc : Int) (f : Nat → Int) : Cm :=
  if (fetW n f pc).2 ≠ 0 then trapC pc (fetW n f pc).2 else allW n f (fetW n f pc).1 pc (R (ra (fetW n f pc).1)) (R (rb (fetW n f pc).1))
theorem Ok.bys {w : World} {R : Nat → Int} {pc : Int} {p : Option Addr} {n c : Nat} {f : Nat → Int} (o : Ok w R pc p n c f) : Bys w p n c f := ⟨o.hn, o.hnc, o.hm, o.hf⟩
end Go.Proofs.YtpiohehijkpghaaDoor
