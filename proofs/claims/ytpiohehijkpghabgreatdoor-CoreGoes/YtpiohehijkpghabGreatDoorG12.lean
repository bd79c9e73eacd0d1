/- Bytes told alike, and a load by the program and by the document. -/
import Derived.Laws.DeepBits32
import Derived.Deep.RegionHeld3
import Derived.Shelf.Bytes.SlEqualAll
import Derived.Test.YtpiohehijkpghabGreatDoorG04
import Derived.Test.YtpiohehijkpghabGreatDoorG11
import Derived.Test.YtpiohehijkpghabGreatDoorG01
set_option maxRecDepth 20000
set_option maxHeartbeats 1000000
namespace Go.Proofs.YtpiohehijkpghabGreatDoor
open Go.RowKit
open Hy
set_option linter.unusedVariables false
theorem hMay_any (H:Array Value) (z0 st ca:Int) (h0:H[0]?=some (.int .u32 z0)) (h33:H[33]?=some (.int .i64 st)) (h34:H[34]?=some (.int .i64 ca)) (w:World):
  Calls Tryz.prog 16 #[.agg H] w fun e w'=>e=.returned (.bool (z0==0&&(((st==0||st==1)&&ca==0)||(st==2&&decide (1≤ca)&&decide (ca≤6)))))∧Below w.heap.size w w':=by
 go_enter Tryz.func16,Tryz.ntmps16
 go_wp2
 all_goals(go_ret;refine⟨?_,(Below.refl _ _).alloc (Nat.le_refl _) _⟩)
 all_goals(simp_all;try omega)
theorem qMayH_any (H:Array Value) (z0 st ca:Int) (h0:H[0]?=some (.int .u32 z0)) (h33:H[33]?=some (.int .i64 st)) (h34:H[34]?=some (.int .i64 ca)) (w:World):
  Calls Tryz.prog 13 #[.agg H] w fun e w'=>e=.returned (.bool (z0==0&&(((st==0||st==1)&&ca==0)||(st==2&&decide (1≤ca)&&decide (ca≤6)))))∧Below w.heap.size w w':=by
 go_enter Tryz.func13,Tryz.ntmps13
 go_wp2
 all_goals(go_ret;refine⟨?_,(Below.refl _ _).alloc (Nat.le_refl _) _⟩)
 all_goals(simp_all;try omega)
theorem htrap_any (pc k:Int) (w:World):
  Calls Tryz.prog 105 #[.int .u32 pc,.int .i64 k] w fun e w'=>e=.returned (cv pc pc 2 k 0 0 0 0 0 false 0)∧Below w.heap.size w w':=by
 go_enter Tryz.func105,Tryz.ntmps105
 go_wp2
 exact bodyPost_ret (v:=cv pc pc 2 k 0 0 0 0 0 false 0) (results_cell_row Tryz.results105 _ _ _ 64 _ (0,0) _ rfl (heap_alloc_new _ _) Tryz.underlying64 rfl size_commit) rfl ⟨rfl,(Below.refl _ _).alloc (Nat.le_refl _) _⟩
theorem honward_any (pc:Int) (p0:0≤pc) (p1:pc≤4294967295) (w:World):
  Calls Tryz.prog 107 #[.int .u32 pc] w fun e w'=>e=.returned (cv pc ((pc+4)%4294967296) 0 0 0 0 0 0 0 false 0)∧Below w.heap.size w w':=by
 go_enter Tryz.func107,Tryz.ntmps107
 go_wp2
 exact bodyPost_ret (v:=cv pc ((pc+4)%4294967296) 0 0 0 0 0 0 0 false 0) (results_cell_row Tryz.results107 _ _ _ 64 _ (0,0) _ rfl (heap_alloc_new _ _) Tryz.underlying64 rfl size_commit) rfl ⟨rfl,(Below.refl _ _).alloc (Nat.le_refl _) _⟩
theorem hgive_no (pc next v:Int) (w:World):
  Calls Tryz.prog 106 #[cv pc next 0 0 0 0 0 0 0 false 0,.int .i64 0,.int .u32 v] w fun e w'=>e=.returned (cv pc next 0 0 0 0 0 0 0 false 0)∧Below w.heap.size w w':=by
 go_enter Tryz.func106,Tryz.ntmps106
 go_wp2
 exact bodyPost_ret (v:=cv pc next 0 0 0 0 0 0 0 false 0) (results_cell_row Tryz.results106 _ _ _ 64 _ (0,0) _ rfl (heap_alloc2_new _ _ _) Tryz.underlying64 rfl size_commit) rfl ⟨rfl,((Below.refl _ _).alloc (Nat.le_refl _) _).alloc (by simp) _⟩
theorem hgive_yes (pc next v:Int) (rd:Nat) (hz:((rd:Int) != 0)=true) (w:World):
  Calls Tryz.prog 106 #[cv pc next 0 0 0 0 0 0 0 false 0,.int .i64 rd,.int .u32 v] w fun e w'=>e=.returned (cv pc next 0 0 rd v 0 0 0 false 0)∧Below w.heap.size w w':=by
 go_enter Tryz.func106,Tryz.ntmps106
 go_wp2
 exact bodyPost_ret (v:=cv pc next 0 0 rd v 0 0 0 false 0) (results_cell_row Tryz.results106 _ _ _ 64 _ (0,0) _ rfl (heap_alloc2_new _ _ _) Tryz.underlying64 rfl size_commit) rfl ⟨rfl,((Below.refl _ _).alloc (Nat.le_refl _) _).alloc (by simp) _⟩
def itab:List Int:=[0,0,0,0,0,0,0,0,0,0,0,0,0,0,0,0,0,0,0,28,31,32,33,36,37,30,34,35,0,0,0,0,0,0,0,0,0,0,0,0,0,0,0,0,0,0,0,0,0]
def Tab2 (w:World):Prop:=∀i,i<49→w.cell? ⟨0,i,none⟩=some (.int .i64 (itab.getD i 0))
theorem Tab2.size {w:World} (h:Tab2 w):0<w.heap.size:=World.block_lt_of_cell? _ _ (h 0 (by omega))
theorem Tab2.below {w w':World} {B:Nat} (h:Tab2 w) (hb:Below B w w') (hB:0<B):Tab2 w':=
 fun i hi=>(hb.cell (p:=⟨0,i,none⟩) hB).trans (h i hi)
theorem andNot1 (a:Int) (a0:0≤a) (a1:a≤4294967295):bits .andNot .u32 a 1=a-a%2:=by
 rw[u32_andNot a 1 a0 (by omega) (by omega) (by omega)]
 rw[show(4294967295-(1:Int).toNat)=4294967294 from rfl,and_even _ (by omega)]
 omega
abbrev wd (I:Int):Int:=I%4294967296
theorem hnext_jal (rd s1 s2 I pc A B:Int) (p0:0≤pc) (p1:pc≤4294967295) (w:World):
  Calls Tryz.prog 110 #[iv 3 rd s1 s2 I,.int .u32 pc,.int .u32 A,.int .u32 B] w fun e w'=>e=.returned (.int .u32 ((pc+wd I)%4294967296))∧Below w.heap.size w w':=by
 go_enter Tryz.func110,Tryz.ntmps110
 go_wp2
 go_ret
 exact⟨rfl,(Below.refl _ _).alloc (Nat.le_refl _) _⟩
theorem hnext_go (op rd s1 s2 I pc A B:Int) (p0:0≤pc) (p1:pc≤4294967295) (hq:(op==3)=false)
  (q:∀W,Calls Tryz.prog 141 #[.int .i64 op,.int .u32 A,.int .u32 B] W fun e w'=>e=.returned (.bool true)∧w'=W) (w:World):
  Calls Tryz.prog 110 #[iv op rd s1 s2 I,.int .u32 pc,.int .u32 A,.int .u32 B] w fun e w'=>e=.returned (.int .u32 ((pc+wd I)%4294967296))∧Below w.heap.size w w':=by
 go_enter Tryz.func110,Tryz.ntmps110
 go_wp2_with fail
 refine(q _).mono ?_
 rintro e w' ⟨rfl,rfl⟩
 go_wp2
 go_ret
 exact⟨rfl,(Below.refl _ _).alloc (Nat.le_refl _) _⟩
theorem hnext_on (op rd s1 s2 I pc A B:Int) (p0:0≤pc) (p1:pc≤4294967295) (hq:(op==3)=false) (hr:(op==4)=false)
  (q:∀W,Calls Tryz.prog 141 #[.int .i64 op,.int .u32 A,.int .u32 B] W fun e w'=>e=.returned (.bool false)∧w'=W) (w:World):
  Calls Tryz.prog 110 #[iv op rd s1 s2 I,.int .u32 pc,.int .u32 A,.int .u32 B] w fun e w'=>e=.returned (.int .u32 ((pc+4)%4294967296))∧Below w.heap.size w w':=by
 go_enter Tryz.func110,Tryz.ntmps110
 go_wp2_with fail
 refine(q _).mono ?_
 rintro e w' ⟨rfl,rfl⟩
 go_wp2
 go_ret
 exact⟨rfl,(Below.refl _ _).alloc (Nat.le_refl _) _⟩
theorem hnext_jalr (rd s1 s2 I pc A B:Int) (p0:0≤pc) (p1:pc≤4294967295) (a0:0≤A) (a1:A≤4294967295)
  (q:∀W,Calls Tryz.prog 141 #[.int .i64 4,.int .u32 A,.int .u32 B] W fun e w'=>e=.returned (.bool false)∧w'=W) (w:World):
  Calls Tryz.prog 110 #[iv 4 rd s1 s2 I,.int .u32 pc,.int .u32 A,.int .u32 B] w fun e w'=>e=.returned (.int .u32 ((A+wd I)%4294967296-(A+wd I)%4294967296%2))∧Below w.heap.size w w':=by
 have hb:=andNot1 ((A+wd I)%4294967296) (by omega) (by omega)
 go_enter Tryz.func110,Tryz.ntmps110
 go_wp2_with fail
 refine(q _).mono ?_
 rintro e w' ⟨rfl,rfl⟩
 go_wp2
 go_ret
 exact⟨ret_int (by rw[show(A+I)%4294967296=(A+wd I)%4294967296 by unfold wd;omega];exact hb),(Below.refl _ _).alloc (Nat.le_refl _) _⟩
theorem hreckon_lui (rd s1 s2 I pc A B:Int) (w:World):
  Calls Tryz.prog 111 #[iv 1 rd s1 s2 I,.int .u32 pc,.int .u32 A,.int .u32 B] w fun e w'=>e=.returned (.int .u32 (wd I))∧Below w.heap.size w w':=by
 go_enter Tryz.func111,Tryz.ntmps111
 go_wp2
 go_ret
 exact⟨rfl,(Below.refl _ _).alloc (Nat.le_refl _) _⟩
theorem hreckon_auipc (rd s1 s2 I pc A B:Int) (p0:0≤pc) (p1:pc≤4294967295) (w:World):
  Calls Tryz.prog 111 #[iv 2 rd s1 s2 I,.int .u32 pc,.int .u32 A,.int .u32 B] w fun e w'=>e=.returned (.int .u32 ((pc+wd I)%4294967296))∧Below w.heap.size w w':=by
 go_enter Tryz.func111,Tryz.ntmps111
 go_wp2
 go_ret
 exact⟨rfl,(Below.refl _ _).alloc (Nat.le_refl _) _⟩
theorem hreckon_jal (rd s1 s2 I pc A B:Int) (p0:0≤pc) (p1:pc≤4294967295) (w:World):
  Calls Tryz.prog 111 #[iv 3 rd s1 s2 I,.int .u32 pc,.int .u32 A,.int .u32 B] w fun e w'=>e=.returned (.int .u32 ((pc+4)%4294967296))∧Below w.heap.size w w':=by
 go_enter Tryz.func111,Tryz.ntmps111
 go_wp2
 go_ret
 exact⟨rfl,(Below.refl _ _).alloc (Nat.le_refl _) _⟩
theorem hreckon_jalr (rd s1 s2 I pc A B:Int) (p0:0≤pc) (p1:pc≤4294967295) (w:World):
  Calls Tryz.prog 111 #[iv 4 rd s1 s2 I,.int .u32 pc,.int .u32 A,.int .u32 B] w fun e w'=>e=.returned (.int .u32 ((pc+4)%4294967296))∧Below w.heap.size w w':=by
 go_enter Tryz.func111,Tryz.ntmps111
 go_wp2
 go_ret
 exact⟨rfl,(Below.refl _ _).alloc (Nat.le_refl _) _⟩
theorem hreckon_imm (m:Nat) (rd s1 s2 I pc A B O V:Int) (m0:5≤m) (m1:m<49) (ht:itab.getD m 0=O) (hO:(O != 0)=true)
  (q:∀W,Calls Tryz.prog 142 #[.int .i64 O,.int .u32 A,.int .u32 (wd I)] W fun e w'=>e=.returned (.int .u32 V)∧w'=W) (w:World) (hT:Tab2 w):
  Calls Tryz.prog 111 #[iv m rd s1 s2 I,.int .u32 pc,.int .u32 A,.int .u32 B] w fun e w'=>e=.returned (.int .u32 V)∧Below w.heap.size w w':=by
 have k:=hT m m1
 rw[ht]at k
 have hs:=hT.size
 have n1:((m:Int)==1)=false:=beq_eq_false_iff_ne.2 (by omega)
 have n2:((m:Int)==2)=false:=beq_eq_false_iff_ne.2 (by omega)
 have n3:((m:Int)==3)=false:=beq_eq_false_iff_ne.2 (by omega)
 have n4:((m:Int)==4)=false:=beq_eq_false_iff_ne.2 (by omega)
 clear hT ht
 go_enter Tryz.func111,Tryz.ntmps111
 go_wp2_with fail
 refine(q _).mono ?_
 rintro e w' ⟨rfl,rfl⟩
 go_wp2
 go_ret
 exact⟨rfl,(Below.refl _ _).alloc (Nat.le_refl _) _⟩
theorem hreckon_reg (m:Nat) (rd s1 s2 I pc A B V:Int) (m0:5≤m) (m1:m<49) (ht:itab.getD m 0=0)
  (q:∀W,Calls Tryz.prog 142 #[.int .i64 m,.int .u32 A,.int .u32 B] W fun e w'=>e=.returned (.int .u32 V)∧w'=W) (w:World) (hT:Tab2 w):
  Calls Tryz.prog 111 #[iv m rd s1 s2 I,.int .u32 pc,.int .u32 A,.int .u32 B] w fun e w'=>e=.returned (.int .u32 V)∧Below w.heap.size w w':=by
 have k:=hT m m1
 rw[ht]at k
 have hs:=hT.size
 have n1:((m:Int)==1)=false:=beq_eq_false_iff_ne.2 (by omega)
 have n2:((m:Int)==2)=false:=beq_eq_false_iff_ne.2 (by omega)
 have n3:((m:Int)==3)=false:=beq_eq_false_iff_ne.2 (by omega)
 have n4:((m:Int)==4)=false:=beq_eq_false_iff_ne.2 (by omega)
 clear hT ht
 go_enter Tryz.func111,Tryz.ntmps111
 go_wp2_with fail
 refine(q _).mono ?_
 rintro e w' ⟨rfl,rfl⟩
 go_wp2
 go_ret
 exact⟨rfl,(Below.refl _ _).alloc (Nat.le_refl _) _⟩
end Go.Proofs.YtpiohehijkpghabGreatDoor
namespace Go.Proofs.YtpiohehijkpghabGreatDoor
open Go.RowKit
open Hy
set_option linter.unusedVariables false
set_option linter.unusedSimpArgs false
theorem and_byte (x k:Nat):x&&& (255*2^k)=(x/2^k%256)*2^k:=by
 apply Nat.eq_of_testBit_eq
 intro i
 rw[Nat.mul_comm 255,Nat.mul_comm (x/2^k%256),Nat.testBit_and,Nat.testBit_two_pow_mul,Nat.testBit_two_pow_mul]
 by_cases h:k≤i
 ·simp only[h,decide_true,Bool.true_and]
  rw[show(255:Nat)=2^8-1 from rfl,Nat.testBit_two_pow_sub_one,show(256:Nat)=2^8 from rfl,Nat.testBit_mod_two_pow,Nat.testBit_div_two_pow,Nat.sub_add_cancel h,Bool.and_comm]
 ·simp[h]
theorem and_byte_i (B P:Int) (k:Nat) (hk:k≤24) (hP:P=((2^k:Nat):Int)) (b0:0≤B) (b1:B≤4294967295):bits .and .u32 B (255*P)=B/P%256*P:=by
 have hle:2^k≤2^24:=Nat.pow_le_pow_right (by omega) hk
 have hab:=and_byte B.toNat k
 generalize 2^k=q at hle hP hab
 subst hP
 rw[u32_and _ _ b0 (by omega) (by omega) (by omega),show(255*(q:Int)).toNat=255*q by omega,hab]
 obtain⟨x,rfl⟩:=Int.eq_ofNat_of_zero_le b0
 simp
theorem low_step (B T P Q:Int) (k:Nat) (hk:k≤24) (hP:P=((2^k:Nat):Int)) (hQ:Q=P*256) (b0:0≤B) (b1:B≤4294967295) (hT:T=B%P):
  bits .or .u32 T (bits .and .u32 B (255*P))=B%Q:=by
 have hle:2^k≤2^24:=Nat.pow_le_pow_right (by omega) hk
 have hp:0<2^k:=Nat.pos_of_ne_zero (by simp)
 have hP0:0<P:=by omega
 have t0:0≤T:=by rw[hT];exact Int.emod_nonneg _ (by omega)
 have t1:T<P:=by rw[hT];exact Int.emod_lt_of_pos _ hP0
 rw[and_byte_i B P k hk hP b0 b1]
 have d0:0≤B/P%256:=by omega
 have d1:B/P%256≤255:=by omega
 have dm:B/P%256*P≤255*P:=Int.mul_le_mul_of_nonneg_right d1 (by omega)
 have dn:0≤B/P%256*P:=Int.mul_nonneg d0 (by omega)
 rw[or_add k P T _ hP (by omega) t0 t1 dn (by omega) (Int.mul_emod_left _ _),hT,hQ]
 have e1:=Int.emod_def B (P*256)
 have e2:=Int.emod_def B P
 have e3:=Int.emod_def (B/P) 256
 have e4:B/(P*256)=B/P/256:=(Int.ediv_ediv_of_nonneg (by omega)).symm
 rw[e1,e2,e3,e4,Int.sub_mul,Int.mul_assoc P 256,Int.mul_comm (256*(B/P/256)) P,Int.mul_comm (B/P) P]
 omega
theorem lowest_any (B:Int) (m:Nat) (hm:m=1∨m=2∨m=4) (b0:0≤B) (b1:B≤4294967295) (w:World):
  Calls Tryz.prog 140 #[.int .u32 B,.int .u32 m] w fun e w'=>e=.returned (.int .u32 (B%p256 m))∧w'=w:=by
 go_enter Tryz.func140,Tryz.ntmps140
 go_wp2
 go_loop [5,6,8] (fun t i k=>∃j:Nat,j≤m∧k=.int .u32 j∧t=.int .u32 (B%p256 j)) (fun _ _ k=>m-(intOf k).toNat)
 case atStart=>exact⟨0,by omega,rfl,int_eq (by rw[show p256 0=1 from rfl];omega)⟩
 case round=>
  obtain⟨j,hj,rfl,rfl⟩:=hrel
  obtain⟨T,hT⟩:∃T,T=B%p256 j:=⟨_,rfl⟩
  have HT:Hid (T=B%p256 j):=hT
  rw[←hT]
  clear hT
  by_cases hlt:j<m
  ·rcases(by omega:j=0∨j=1∨j=2∨j=3)with rfl|rfl|rfl|rfl
   ·go_wp2
    go_round
    case rel=>exact⟨1,by omega,by go_num,int_eq (low_step B T 1 256 0 (by omega) rfl rfl b0 b1 HT.out)⟩
    case measure=>simp[intOf];omega
   ·go_wp2
    go_round
    case rel=>exact⟨2,by omega,by go_num,int_eq (low_step B T 256 65536 8 (by omega) rfl rfl b0 b1 HT.out)⟩
    case measure=>simp[intOf];omega
   ·go_wp2
    go_round
    case rel=>exact⟨3,by omega,by go_num,int_eq (low_step B T 65536 16777216 16 (by omega) rfl rfl b0 b1 HT.out)⟩
    case measure=>simp[intOf];omega
   ·go_wp2
    go_round
    case rel=>exact⟨4,by omega,by go_num,int_eq (low_step B T 16777216 4294967296 24 (by omega) rfl rfl b0 b1 HT.out)⟩
    case measure=>simp[intOf];omega
  ·obtain rfl:j=m:=by omega
   go_wp2
   go_ret
   exact⟨congrArg Ending.returned (int_eq HT.out),rfl⟩
theorem hLoaded_no (op rd s1 s2 I pc V:Int) (w:World):
  Calls Tryz.prog 73 #[iv op rd s1 s2 I,.int .u32 pc,.int .u32 V,.bool false] w fun e w'=>e=.returned (cv pc pc 2 3 0 0 0 0 0 false 0)∧Below w.heap.size w w':=by
 go_enter Tryz.func73,Tryz.ntmps73
 go_wp2_with fail
 refine(htrap_any pc 3 _).mono ?_
 rintro e w2 ⟨rfl,hk⟩
 have hs:=hk.size
 simp at hs
 have hr:=(hk.block (w.heap.size+1) (by simp)).trans (heap_alloc2_new _ _ _)
 go_wp2_with(refine wpList_store_row rfl 64 _ _ rfl _ _ rfl rfl 64 _ hr size_commit rfl (ones_ccs _ _ _ _ _ _ _ _ _ _ _) ?_)
 exact bodyPost_ret (v:=cv pc pc 2 3 0 0 0 0 0 false 0) (results_cell_row Tryz.results73 _ _ _ 64 _ (0,0) _ rfl (setRow_heap _ _ _ _ _ _ hr) Tryz.underlying64 rfl size_commit) rfl ⟨rfl,below_row ((((Below.refl _ _).alloc (Nat.le_refl _) _).alloc (by simp) _).trans (hk.mono (by simp;omega))) (by simp) _⟩
theorem below_first {N:Nat} {W w2:World} (hk:Below W.drew.heap.size W.drew w2) (h:N≤W.heap.size):Below N W w2:=((Below.refl _ W).drew).trans (hk.mono h)
theorem below_next {N:Nat} {W w2 w3:World} (h2:Below N W w2) (hk:Below w2.heap.size w2 w3) (h:N≤W.heap.size):Below N W w3:=h2.trans (hk.mono (Nat.le_trans h h2.size))
theorem below_row_at {N:Nat} {W w2:World} {b:Nat} {o:Obj} (h2:Below N W w2) (hb:b<N) (h:W.heap[b]?=some o):w2.heap[b]?=some o:=(h2.block b hb).trans h
theorem below_cell_at {N:Nat} {W w2:World} {b j:Nat} {v:Value} (h2:Below N W w2) (hb:b<N) (h:W.cell? ⟨b,j,none⟩=some v):w2.cell? ⟨b,j,none⟩=some v:=(h2.cell (p:=⟨b,j,none⟩) hb).trans h
theorem hLoaded_yes (op I pc V NX:Int) (rd s1 s2:Nat) (w:World)
  (CN:∀W,Calls Tryz.prog 107 #[.int .u32 pc] W fun e w'=>e=.returned (cv pc NX 0 0 0 0 0 0 0 false 0)∧Below W.heap.size W w')
  (r v:Int) (CG:∀W,Calls Tryz.prog 106 #[cv pc NX 0 0 0 0 0 0 0 false 0,.int .i64 rd,.int .u32 V] W fun e w'=>e=.returned (cv pc NX 0 0 r v 0 0 0 false 0)∧Below W.heap.size W w'):
  Calls Tryz.prog 73 #[iv op rd s1 s2 I,.int .u32 pc,.int .u32 V,.bool true] w fun e w'=>e=.returned (cv pc NX 0 0 r v 0 0 0 false 0)∧Below w.heap.size w w':=by
 go_enter Tryz.func73,Tryz.ntmps73
 go_wp2_with fail
 obtain⟨W,hW⟩:∃W:World,W=(w.alloc (.cells #[.int .i64 op,.int .i64 rd,.int .i64 s1,.int .i64 s2,.int .i32 I] 77)).alloc (.cells (ccs 0 0 0 0 0 0 0 0 0 false 0) 64):=⟨_,rfl⟩
 have r24:W.heap[w.heap.size]?=some (.cells #[.int .i64 op,.int .i64 rd,.int .i64 s1,.int .i64 s2,.int .i32 I] 77 (0,0)):=by rw[hW];exact heap_alloc2_old _ _ _
 have r38:W.heap[w.heap.size+1]?=some (.cells (ccs 0 0 0 0 0 0 0 0 0 false 0) 64 (0,0)):=by rw[hW];exact heap_alloc2_new _ _ _
 have hsz:w.heap.size+2≤W.heap.size:=by rw[hW];simp
 have hb:Below w.heap.size w W:=by rw[hW];exact((Below.refl _ _).alloc (Nat.le_refl _) _).alloc (by simp) _
 have y1:=(cell_of_row W w.heap.size 1 _ _ _ r24).trans rfl
 have R38:Hid (W.heap[w.heap.size+1]?=some (.cells (ccs 0 0 0 0 0 0 0 0 0 false 0) 64 (0,0))):=r38
 rw[←hW]
 clear hW r24 r38
 have hl:w.heap.size+1<w.heap.size+2:=by omega
 have hl0:w.heap.size<w.heap.size+2:=by omega
 refine wp_region_held_drew (S:=fun w'=>Below (w.heap.size+1) W w') (by kernel_rfl) ((Below.refl _ _).drew) (fun hH=>?_)
 refine Co.tI 0 (.int .u32 pc) rfl hH ?_
 try simp only[Act.put,List.setIfInBounds_toArray,List.set_cons_zero,List.set_cons_succ]
 refine Co.tI 2 (.pointer (some ⟨w.heap.size,1,none⟩)) rfl hH ?_
 try simp only[Act.put,List.setIfInBounds_toArray,List.set_cons_zero,List.set_cons_succ]
 refine Co.tH 3 (.int .i64 rd) rfl (Or.inl ⟨by rfl,by intro w hSw;have hc:=below_cell_at hSw (Nat.lt_succ_self _) y1;go_simp⟩) hH ?_
 try simp only[Act.put,List.setIfInBounds_toArray,List.set_cons_zero,List.set_cons_succ]
 refine Co.tI 4 (.int .u32 V) rfl hH ?_
 try simp only[Act.put,List.setIfInBounds_toArray,List.set_cons_zero,List.set_cons_succ]
 refine wpAnyH_ready (rs:=[1]) (by kernel_rfl) (by simp) ?_
 refine AllReadyH.cons rfl (fun K hK=>?_) AllReadyH.nil
 go_simp
 refine(CN _).mono ?_
 rintro e w2 ⟨rfl,hk⟩
 have hB2:Below (w.heap.size+2) W w2:=below_first hk hsz
 go_wp2_with fail
 refine hK.out _ _ (hB2.mono (by omega)) (fun hH=>?_)
 clear hK K
 try simp only[Act.put,List.setIfInBounds_toArray,List.set_cons_zero,List.set_cons_succ]
 refine wpAnyH_ready (rs:=[5]) (by kernel_rfl) (by simp) ?_
 refine AllReadyH.cons rfl (fun K hK=>?_) AllReadyH.nil
 go_simp
 refine(CG _).mono ?_
 rintro e w3 ⟨rfl,hk3⟩
 have hB3:Below (w.heap.size+2) W w3:=below_next hB2 hk3 hsz
 go_wp2_with fail
 refine hK.out _ _ (hB3.mono (by omega)) (fun hH=>?_)
 clear hK K
 try simp only[Act.put,List.setIfInBounds_toArray,List.set_cons_zero,List.set_cons_succ]
 refine wpAnyH_ready (rs:=[6]) (by kernel_rfl) (by simp) ?_
 refine AllReadyH.cons rfl (fun K hK=>?_) AllReadyH.nil
 rw[if_pos (by rfl)]
 refine wp_store_row 64 _ _ rfl _ _ rfl rfl 64 _ (below_row_at hB3 hl R38.out) size_commit rfl (ones_ccs _ _ _ _ _ _ _ _ _ _ _) ?_
 refine hK.out _ _ (below_row (hB3.mono (by omega)) (Nat.le_refl _) _) (fun hH=>?_)
 clear hK K
 try simp only[Act.put,List.setIfInBounds_toArray,List.set_cons_zero,List.set_cons_succ]
 refine wpAnyH_done (by kernel_rfl) ?_ _
 go_wp2_with fail
 exact bodyPost_ret (v:=cv pc NX 0 0 r v 0 0 0 false 0) (results_cell_row Tryz.results73 _ _ _ 64 _ (0,0) _ rfl (setRow_heap _ _ _ _ _ _ (below_row_at hB3 hl R38.out)) Tryz.underlying64 rfl size_commit) rfl ⟨rfl,below_row (hb.trans (hB3.mono (by omega))) (by omega) _⟩
theorem hstore_no (op rd s1 s2 I pc A B:Int) (p:Option Addr) (n c:Nat) (a0:0≤A) (a1:A≤4294967295) (w:World)
  (CM:∀W,Calls Tryz.prog 85 #[.slice p n c,.int .i64 op,.int .u32 ((A+I)%4294967296)] W fun e w'=>e=.returned (.int .u32 0)∧w'=W):
  Calls Tryz.prog 108 #[iv op rd s1 s2 I,.int .u32 pc,.int .u32 A,.int .u32 B,.slice p n c] w fun e w'=>e=.returned (cv pc pc 2 4 0 0 0 0 0 false 0)∧Below w.heap.size w w':=by
 go_enter Tryz.func108,Tryz.ntmps108
 go_wp2_with fail
 refine(CM _).mono ?_
 rintro e w' ⟨rfl,rfl⟩
 go_wp2_with fail
 refine(htrap_any pc 4 _).mono ?_
 rintro e w2 ⟨rfl,hk⟩
 have hs:=hk.size
 simp at hs
 have hr:=(hk.block (w.heap.size+1) (by simp)).trans (heap_alloc2_new _ _ _)
 go_wp2_with(refine wpList_store_row rfl 64 _ _ rfl _ _ rfl rfl 64 _ hr size_commit rfl (ones_ccs _ _ _ _ _ _ _ _ _ _ _) ?_)
 exact bodyPost_ret (v:=cv pc pc 2 4 0 0 0 0 0 false 0) (results_cell_row Tryz.results108 _ _ _ 64 _ (0,0) _ rfl (setRow_heap _ _ _ _ _ _ hr) Tryz.underlying64 rfl size_commit) rfl ⟨rfl,below_row ((((Below.refl _ _).alloc (Nat.le_refl _) _).alloc (by simp) _).trans (hk.mono (by simp;omega))) (by simp) _⟩
theorem hstore_yes (op rd s1 s2 I pc A B NX L:Int) (m:Nat) (hm:m=1∨m=2∨m=4) (p:Option Addr) (n c:Nat) (a0:0≤A) (a1:A≤4294967295) (w:World)
  (CM:∀W,Calls Tryz.prog 85 #[.slice p n c,.int .i64 op,.int .u32 ((A+I)%4294967296)] W fun e w'=>e=.returned (.int .u32 m)∧w'=W)
  (CN:∀W,Calls Tryz.prog 107 #[.int .u32 pc] W fun e w'=>e=.returned (cv pc NX 0 0 0 0 0 0 0 false 0)∧Below W.heap.size W w')
  (CW:∀W,Calls Tryz.prog 140 #[.int .u32 B,.int .u32 m] W fun e w'=>e=.returned (.int .u32 L)∧w'=W):
  Calls Tryz.prog 108 #[iv op rd s1 s2 I,.int .u32 pc,.int .u32 A,.int .u32 B,.slice p n c] w fun e w'=>e=.returned (cv pc NX 0 0 0 0 ((A+I)%4294967296) m L false 0)∧Below w.heap.size w w':=by
 have hz:((m:Int)==0)=false:=beq_eq_false_iff_ne.2 (by omega)
 have hm1:(m:Int)≤4:=by omega
 go_enter Tryz.func108,Tryz.ntmps108
 go_wp2_with fail
 refine(CM _).mono ?_
 rintro e w' ⟨rfl,rfl⟩
 go_wp2_with fail
 refine(CN _).mono ?_
 rintro e w2 ⟨rfl,hk⟩
 have hs:=hk.size
 simp at hs
 have hr:=(hk.block (w.heap.size+1) (by simp)).trans (heap_alloc2_new _ _ _)
 have hb:Below w.heap.size w w2:=(((Below.refl _ _).alloc (Nat.le_refl _) _).alloc (by simp) _).trans (hk.mono (by simp;omega))
 have HR:Hid (w2.heap[w.heap.size+1]?=some (.cells (ccs 0 0 0 0 0 0 0 0 0 false 0) 64 (0,0))):=hr
 have hs':w.heap.size+1<w2.heap.size:=by omega
 clear hr hk
 go_wp2_with fail
 refine(CW _).mono ?_
 rintro e w' ⟨rfl,rfl⟩
 go_wp2_with(first|(refine wpList_load_row rfl 64 _ rfl _ rfl 64 _ (0,0) _ (heap_alloc_new _ _) Tryz.underlying64 rfl size_commit ?_)|(refine wpList_store_row rfl 64 _ _ rfl _ _ rfl rfl 64 (ccs 0 0 0 0 0 0 0 0 0 false 0) ((Below.heap_alloc _ _ _ hs').trans HR.out) size_commit rfl (ones_ccs _ _ _ _ _ _ _ _ _ _ _) ?_))
 exact bodyPost_ret (v:=cv pc NX 0 0 0 0 ((A+I)%4294967296) m L false 0) (results_cell_row Tryz.results108 _ _ _ 64 _ (0,0) _ rfl (setRow_heap _ _ _ _ _ _ ((Below.heap_alloc _ _ _ hs').trans HR.out)) Tryz.underlying64 rfl size_commit) rfl ⟨rfl,below_row (hb.alloc (by omega) _) (by omega) _⟩
theorem hcall_1 (pc T10 NX:Int) (w:World)
  (CN:∀W,Calls Tryz.prog 107 #[.int .u32 pc] W fun e w'=>e=.returned (cv pc NX 0 0 0 0 0 0 0 false 0)∧Below W.heap.size W w'):
  Calls Tryz.prog 109 #[.int .u32 pc,.int .u32 1,.int .u32 T10] w fun e w'=>e=.returned (cv pc NX 0 0 0 0 0 0 0 true T10)∧Below w.heap.size w w':=by
 go_enter Tryz.func109,Tryz.ntmps109
 go_wp2_with fail
 refine(CN _).mono ?_
 rintro e w2 ⟨rfl,hk⟩
 have hs:=hk.size
 simp at hs
 have hr:=(hk.block w.heap.size (by simp)).trans (heap_alloc_new _ _)
 have hb:Below w.heap.size w w2:=((Below.refl _ _).alloc (Nat.le_refl _) _).trans (hk.mono (by simp))
 have HR:Hid (w2.heap[w.heap.size]?=some (.cells (ccs 0 0 0 0 0 0 0 0 0 false 0) 64 (0,0))):=hr
 have hs':w.heap.size<w2.heap.size:=by omega
 clear hr hk
 go_wp2_with(first|(refine wpList_load_row rfl 64 _ rfl _ rfl 64 _ (0,0) _ (heap_alloc_new _ _) Tryz.underlying64 rfl size_commit ?_)|(refine wpList_store_row rfl 64 _ _ rfl _ _ rfl rfl 64 (ccs 0 0 0 0 0 0 0 0 0 false 0) ((Below.heap_alloc _ _ _ hs').trans HR.out) size_commit rfl (ones_ccs _ _ _ _ _ _ _ _ _ _ _) ?_))
 exact bodyPost_ret (v:=cv pc NX 0 0 0 0 0 0 0 true T10) (results_cell_row Tryz.results109 _ _ _ 64 _ (0,0) _ rfl (setRow_heap _ _ _ _ _ _ ((Below.heap_alloc _ _ _ hs').trans HR.out)) Tryz.underlying64 rfl size_commit) rfl ⟨rfl,below_row (hb.alloc (by omega) _) (by omega) _⟩
theorem hcall_0 (pc B:Int) (w:World):
  Calls Tryz.prog 109 #[.int .u32 pc,.int .u32 0,.int .u32 B] w fun e w'=>e=.returned (cv pc pc 1 0 0 0 0 0 0 false 0)∧Below w.heap.size w w':=by
 go_enter Tryz.func109,Tryz.ntmps109
 go_wp2_with fail
 exact bodyPost_ret (v:=cv pc pc 1 0 0 0 0 0 0 false 0) (results_cell_row Tryz.results109 _ _ _ 64 _ (0,0) _ rfl (heap_alloc_new _ _) Tryz.underlying64 rfl size_commit) rfl ⟨rfl,(Below.refl _ _).alloc (Nat.le_refl _) _⟩
theorem hcall_x (pc T17 B:Int) (n0:(T17==0)=false) (n1:(T17==1)=false) (w:World):
  Calls Tryz.prog 109 #[.int .u32 pc,.int .u32 T17,.int .u32 B] w fun e w'=>e=.returned (cv pc pc 2 5 0 0 0 0 0 false 0)∧Below w.heap.size w w':=by
 go_enter Tryz.func109,Tryz.ntmps109
 go_wp2_with fail
 refine(htrap_any pc 5 _).mono ?_
 rintro e w2 ⟨rfl,hk⟩
 have hs:=hk.size
 simp at hs
 have hr:=(hk.block w.heap.size (by simp)).trans (heap_alloc_new _ _)
 go_wp2_with(refine wpList_store_row rfl 64 _ _ rfl _ _ rfl rfl 64 _ hr size_commit rfl (ones_ccs _ _ _ _ _ _ _ _ _ _ _) ?_)
 exact bodyPost_ret (v:=cv pc pc 2 5 0 0 0 0 0 false 0) (results_cell_row Tryz.results109 _ _ _ 64 _ (0,0) _ rfl (setRow_heap _ _ _ _ _ _ hr) Tryz.underlying64 rfl size_commit) rfl ⟨rfl,below_row (((Below.refl _ _).alloc (Nat.le_refl _) _).trans (hk.mono (by simp))) (by simp) _⟩
end Go.Proofs.YtpiohehijkpghabGreatDoor
namespace Go.Proofs.YtpiohehijkpghabGreatDoor
open Go.RowKit
open Hy
set_option linter.unusedVariables false
theorem Lies.below {w w':World} {g o n:Nat} {f:Nat→Int} (h:Lies w g o n f) (hb:Below w.heap.size w w'):Lies w' g o n f:=fun i hi=>by
 have hlt:=World.block_lt_of_cell? _ _ (h i hi)
 rw[hb.cell hlt]
 exact h i hi
theorem Lies.part {w:World} {g o n:Nat} {f:Nat→Int} (h:Lies w g o n f) (a m:Nat) (ham:a+m≤n):Lies w g (o+a) m (fun i=>f (a+i)):=fun i hi=>by
 rw[Nat.add_assoc]
 exact h (a+i) (by omega)
end Go.Proofs.YtpiohehijkpghabGreatDoor
