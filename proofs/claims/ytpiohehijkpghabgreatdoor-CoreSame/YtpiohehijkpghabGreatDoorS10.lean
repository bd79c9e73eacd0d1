/- The program's Do, of the other kinds: walked. -/
import Derived.Deep.RegionHeld3
import Derived.Deep.Cut
import Derived.Test.YtpiohehijkpghabGreatDoorS05
import Derived.Test.YtpiohehijkpghabGreatDoorS09
import Derived.Test.YtpiohehijkpghabGreatDoorS03
import Derived.Test.YtpiohehijkpghabGreatDoorS04
set_option maxRecDepth 20000
set_option maxHeartbeats 4000000
set_option linter.unusedSimpArgs false
set_option linter.unusedVariables false
open Go.Proofs.Tryz
namespace Go.Proofs.YtpiohehijkpghabGreatDoor
open Go.RowKit
open Hy
theorem zjg(x k:Nat):x&&& (255*2^k)=(x/2^k%256)*2^k:=by
 apply Nat.eq_of_testBit_eq
 intro i
 rw[Nat.mul_comm 255,Nat.mul_comm (x/2^k%256),Nat.testBit_and,Nat.testBit_two_pow_mul,Nat.testBit_two_pow_mul]
 by_cases h:k<=i
 ·simp only[h,decide_true,Bool.true_and]
  rw[show(255:Nat)=2^8-1 from rfl,Nat.testBit_two_pow_sub_one,show(256:Nat)=2^8 from rfl,Nat.testBit_mod_two_pow,Nat.testBit_div_two_pow,Nat.sub_add_cancel h,Bool.and_comm]
 ·simp[h]
theorem zfe(B P:Int)(k:Nat)(hk:k<=24)(hP:P=((2^k:Nat):Int))(b0:0<=B)(b1:B<=4294967295):bits .and .u32 B (255*P)=B/P%256*P:=by
 have hle:2^k<=2^24:=Nat.pow_le_pow_right (by omega) hk
 have hab:=zjg B.toNat k
 generalize 2^k=q at hle hP hab
 subst hP
 rw[u32_and _ _ b0 (by omega) (by omega) (by omega),show(255*(q:Int)).toNat=255*q by omega,hab]
 obtain⟨x,rfl⟩:=Int.eq_ofNat_of_zero_le b0
 simp
theorem yz(B T P Q:Int)(k:Nat)(hk:k<=24)(hP:P=((2^k:Nat):Int))(hQ:Q=P*256)(b0:0<=B)(b1:B<=4294967295)(hT:T=B%P):
  bits .or .u32 T (bits .and .u32 B (255*P))=B%Q:=by
 have hle:2^k<=2^24:=Nat.pow_le_pow_right (by omega) hk
 have hp:0<2^k:=Nat.pos_of_ne_zero (by simp)
 have hP0:0<P:=by omega
 have t0:0<=T:=by rw[hT];exact Int.emod_nonneg _ (by omega)
 have t1:T<P:=by rw[hT];exact Int.emod_lt_of_pos _ hP0
 rw[zfe B P k hk hP b0 b1]
 have d0:0<=B/P%256:=by omega
 have d1:B/P%256<=255:=by omega
 have dm:B/P%256*P<=255*P:=Int.mul_le_mul_of_nonneg_right d1 (by omega)
 have dn:0<=B/P%256*P:=Int.mul_nonneg d0 (by omega)
 rw[zbI k P T _ hP (by omega) t0 t1 dn (by omega) (Int.mul_emod_left _ _),hT,hQ]
 have e1:=Int.emod_def B (P*256)
 have e2:=Int.emod_def B P
 have e3:=Int.emod_def (B/P) 256
 have e4:B/(P*256)=B/P/256:=(Int.ediv_ediv_of_nonneg (by omega)).symm
 rw[e1,e2,e3,e4,Int.sub_mul,Int.mul_assoc P 256,Int.mul_comm (256*(B/P/256)) P,Int.mul_comm (B/P) P]
 omega
theorem kW(B:Int)(m:Nat)(hm:m=1\/m=2\/m=4)(b0:0<=B)(b1:B<=4294967295)(w:World):
  Calls prog 140 #[.int .u32 B,.int .u32 m] w fun e w'=>e=.returned (.int .u32 (B%p256 m))/\w'=w:=by
 go_enter func140,ntmps140
 go_wp2
 go_loop [5,6,8] (fun t i k=>∃j:Nat,j<=m/\k=.int .u32 j/\t=.int .u32 (B%p256 j)) (fun _ _ k=>m-(intOf k).toNat)
 case atStart=>exact⟨0,by omega,rfl,int_eq (by rw[show p256 0=1 from rfl];omega)⟩
 case round=>
  obtain⟨j,hj,rfl,rfl⟩:=hrel
  obtain⟨T,hT⟩:∃T,T=B%p256 j:=⟨_,rfl⟩
  have HT:Hid (T=B%p256 j):=hT
  rw[<-hT]
  clear hT
  by_cases hlt:j<m
  ·rcases(by omega:j=0\/j=1\/j=2\/j=3)with rfl|rfl|rfl|rfl
   ·go_wp2
    go_round
    case rel=>exact⟨1,by omega,by go_num,int_eq (yz B T 1 256 0 (by omega) rfl rfl b0 b1 HT.out)⟩
    case measure=>simp[intOf];omega
   ·go_wp2
    go_round
    case rel=>exact⟨2,by omega,by go_num,int_eq (yz B T 256 65536 8 (by omega) rfl rfl b0 b1 HT.out)⟩
    case measure=>simp[intOf];omega
   ·go_wp2
    go_round
    case rel=>exact⟨3,by omega,by go_num,int_eq (yz B T 65536 16777216 16 (by omega) rfl rfl b0 b1 HT.out)⟩
    case measure=>simp[intOf];omega
   ·go_wp2
    go_round
    case rel=>exact⟨4,by omega,by go_num,int_eq (yz B T 16777216 4294967296 24 (by omega) rfl rfl b0 b1 HT.out)⟩
    case measure=>simp[intOf];omega
  ·obtain rfl:j=m:=by omega
   go_wp2
   go_ret
   exact⟨congrArg Ending.returned (int_eq HT.out),rfl⟩
theorem jh(op rd s1 s2 I pc V:Int)(w:World):
  Calls prog 73 #[iv op rd s1 s2 I,.int .u32 pc,.int .u32 V,.bool false] w fun e w'=>e=.returned (cv pc pc 2 3 0 0 0 0 0 false 0)/\Below w.heap.size w w':=by
 go_enter func73,ntmps73
 go_wp2_with fail
 refine(xh pc 3 _).mono ?_
 rintro e w2 ⟨rfl,hk⟩
 have hs:=hk.size
 simp at hs
 have hr:=(hk.block (w.heap.size+1) (by simp)).trans (heap_alloc2_new _ _ _)
 go_wp2_with(refine wpList_store_row rfl 64 _ _ rfl _ _ rfl rfl 64 _ hr za rfl (qZ _ _ _ _ _ _ _ _ _ _ _) ?_)
 exact bodyPost_ret (v:=cv pc pc 2 3 0 0 0 0 0 false 0) (results_cell_row results73 _ _ _ 64 _ (0,0) _ rfl (setRow_heap _ _ _ _ _ _ hr) underlying64 rfl za) rfl ⟨rfl,zh ((((Below.refl _ _).alloc (Nat.le_refl _) _).alloc (by simp) _).trans (hk.mono (by simp;omega))) (by simp) _⟩
theorem zi{N:Nat}{W w2:World}(hk:Below W.drew.heap.size W.drew w2)(h:N<=W.heap.size):Below N W w2:=((Below.refl _ W).drew).trans (hk.mono h)
theorem kX{N:Nat}{W w2 w3:World}(h2:Below N W w2)(hk:Below w2.heap.size w2 w3)(h:N<=W.heap.size):Below N W w3:=h2.trans (hk.mono (Nat.le_trans h h2.size))
theorem jz{N:Nat}{W w2:World}{b:Nat}{o:Obj}(h2:Below N W w2)(hb:b<N)(h:W.heap[b]?=some o):w2.heap[b]?=some o:=(h2.block b hb).trans h
theorem zaL{N:Nat}{W w2:World}{b j:Nat}{v:Value}(h2:Below N W w2)(hb:b<N)(h:W.cell? ⟨b,j,none⟩=some v):w2.cell? ⟨b,j,none⟩=some v:=(h2.cell (p:=⟨b,j,none⟩) hb).trans h
theorem qA(op I pc V NX:Int)(rd s1 s2:Nat)(w:World)
  (CN:∀W,Calls prog 107 #[.int .u32 pc] W fun e w'=>e=.returned (cv pc NX 0 0 0 0 0 0 0 false 0)/\Below W.heap.size W w')
  (r v:Int) (CG:∀W,Calls prog 106 #[cv pc NX 0 0 0 0 0 0 0 false 0,.int .i64 rd,.int .u32 V] W fun e w'=>e=.returned (cv pc NX 0 0 r v 0 0 0 false 0)/\Below W.heap.size W w'):
  Calls prog 73 #[iv op rd s1 s2 I,.int .u32 pc,.int .u32 V,.bool true] w fun e w'=>e=.returned (cv pc NX 0 0 r v 0 0 0 false 0)/\Below w.heap.size w w':=by
 go_enter func73,ntmps73
 go_wp2_with fail
 obtain⟨W,hW⟩:∃W:World,W=(w.alloc (.cells #[.int .i64 op,.int .i64 rd,.int .i64 s1,.int .i64 s2,.int .i32 I] 77)).alloc (.cells (ccs 0 0 0 0 0 0 0 0 0 false 0) 64):=⟨_,rfl⟩
 have r24:W.heap[w.heap.size]?=some (.cells #[.int .i64 op,.int .i64 rd,.int .i64 s1,.int .i64 s2,.int .i32 I] 77 (0,0)):=by rw[hW];exact heap_alloc2_old _ _ _
 have r38:W.heap[w.heap.size+1]?=some (.cells (ccs 0 0 0 0 0 0 0 0 0 false 0) 64 (0,0)):=by rw[hW];exact heap_alloc2_new _ _ _
 have hsz:w.heap.size+2<=W.heap.size:=by rw[hW];simp
 have hb:Below w.heap.size w W:=by rw[hW];exact((Below.refl _ _).alloc (Nat.le_refl _) _).alloc (by simp) _
 have y1:=(cell_of_row W w.heap.size 1 _ _ _ r24).trans rfl
 have R38:Hid (W.heap[w.heap.size+1]?=some (.cells (ccs 0 0 0 0 0 0 0 0 0 false 0) 64 (0,0))):=r38
 rw[<-hW]
 clear hW r24 r38
 have hl:w.heap.size+1<w.heap.size+2:=by omega
 have hl0:w.heap.size<w.heap.size+2:=by omega
 refine wp_region_held_drew (S:=fun w'=>Below (w.heap.size+1) W w') (by kernel_rfl) ((Below.refl _ _).drew) (fun hH=>?_)
 refine Co.tI 0 (.int .u32 pc) rfl hH ?_
 try simp only[Act.put,List.setIfInBounds_toArray,List.set_cons_zero,List.set_cons_succ]
 refine Co.tI 2 (.pointer (some ⟨w.heap.size,1,none⟩)) rfl hH ?_
 try simp only[Act.put,List.setIfInBounds_toArray,List.set_cons_zero,List.set_cons_succ]
 refine Co.tH 3 (.int .i64 rd) rfl (Or.inl ⟨by rfl,by intro w hSw;have hc:=zaL hSw (Nat.lt_succ_self _) y1;go_simp⟩) hH ?_
 try simp only[Act.put,List.setIfInBounds_toArray,List.set_cons_zero,List.set_cons_succ]
 refine Co.tI 4 (.int .u32 V) rfl hH ?_
 try simp only[Act.put,List.setIfInBounds_toArray,List.set_cons_zero,List.set_cons_succ]
 refine wpAnyH_ready (rs:=[1]) (by kernel_rfl) (by simp) ?_
 refine AllReadyH.cons rfl (fun K hK=>?_) AllReadyH.nil
 go_simp
 refine(CN _).mono ?_
 rintro e w2 ⟨rfl,hk⟩
 have hB2:Below (w.heap.size+2) W w2:=zi hk hsz
 go_wp2_with fail
 refine hK.out _ _ (hB2.mono (by omega)) (fun hH=>?_)
 clear hK K
 try simp only[Act.put,List.setIfInBounds_toArray,List.set_cons_zero,List.set_cons_succ]
 refine wpAnyH_ready (rs:=[5]) (by kernel_rfl) (by simp) ?_
 refine AllReadyH.cons rfl (fun K hK=>?_) AllReadyH.nil
 go_simp
 refine(CG _).mono ?_
 rintro e w3 ⟨rfl,hk3⟩
 have hB3:Below (w.heap.size+2) W w3:=kX hB2 hk3 hsz
 go_wp2_with fail
 refine hK.out _ _ (hB3.mono (by omega)) (fun hH=>?_)
 clear hK K
 try simp only[Act.put,List.setIfInBounds_toArray,List.set_cons_zero,List.set_cons_succ]
 refine wpAnyH_ready (rs:=[6]) (by kernel_rfl) (by simp) ?_
 refine AllReadyH.cons rfl (fun K hK=>?_) AllReadyH.nil
 rw[if_pos (by rfl)]
 refine wp_store_row 64 _ _ rfl _ _ rfl rfl 64 _ (jz hB3 hl R38.out) za rfl (qZ _ _ _ _ _ _ _ _ _ _ _) ?_
 refine hK.out _ _ (zh (hB3.mono (by omega)) (Nat.le_refl _) _) (fun hH=>?_)
 clear hK K
 try simp only[Act.put,List.setIfInBounds_toArray,List.set_cons_zero,List.set_cons_succ]
 refine wpAnyH_done (by kernel_rfl) ?_ _
 go_wp2_with fail
 exact bodyPost_ret (v:=cv pc NX 0 0 r v 0 0 0 false 0) (results_cell_row results73 _ _ _ 64 _ (0,0) _ rfl (setRow_heap _ _ _ _ _ _ (jz hB3 hl R38.out)) underlying64 rfl za) rfl ⟨rfl,zh (hb.trans (hB3.mono (by omega))) (by omega) _⟩
theorem yS(op rd s1 s2 I pc A B:Int)(p:Option Addr)(n c:Nat)(a0:0<=A)(a1:A<=4294967295)(w:World)
  (CM:∀W,Calls prog 85 #[.slice p n c,.int .i64 op,.int .u32 ((A+I)%4294967296)] W fun e w'=>e=.returned (.int .u32 0)/\w'=W):
  Calls prog 108 #[iv op rd s1 s2 I,.int .u32 pc,.int .u32 A,.int .u32 B,.slice p n c] w fun e w'=>e=.returned (cv pc pc 2 4 0 0 0 0 0 false 0)/\Below w.heap.size w w':=by
 go_enter func108,ntmps108
 go_wp2_with fail
 refine(CM _).mono ?_
 rintro e w' ⟨rfl,rfl⟩
 go_wp2_with fail
 refine(xh pc 4 _).mono ?_
 rintro e w2 ⟨rfl,hk⟩
 have hs:=hk.size
 simp at hs
 have hr:=(hk.block (w.heap.size+1) (by simp)).trans (heap_alloc2_new _ _ _)
 go_wp2_with(refine wpList_store_row rfl 64 _ _ rfl _ _ rfl rfl 64 _ hr za rfl (qZ _ _ _ _ _ _ _ _ _ _ _) ?_)
 exact bodyPost_ret (v:=cv pc pc 2 4 0 0 0 0 0 false 0) (results_cell_row results108 _ _ _ 64 _ (0,0) _ rfl (setRow_heap _ _ _ _ _ _ hr) underlying64 rfl za) rfl ⟨rfl,zh ((((Below.refl _ _).alloc (Nat.le_refl _) _).alloc (by simp) _).trans (hk.mono (by simp;omega))) (by simp) _⟩
theorem kY(op rd s1 s2 I pc A B NX L:Int)(m:Nat)(hm:m=1\/m=2\/m=4)(p:Option Addr)(n c:Nat)(a0:0<=A)(a1:A<=4294967295)(w:World)
  (CM:∀W,Calls prog 85 #[.slice p n c,.int .i64 op,.int .u32 ((A+I)%4294967296)] W fun e w'=>e=.returned (.int .u32 m)/\w'=W)
  (CN:∀W,Calls prog 107 #[.int .u32 pc] W fun e w'=>e=.returned (cv pc NX 0 0 0 0 0 0 0 false 0)/\Below W.heap.size W w')
  (CW:∀W,Calls prog 140 #[.int .u32 B,.int .u32 m] W fun e w'=>e=.returned (.int .u32 L)/\w'=W):
  Calls prog 108 #[iv op rd s1 s2 I,.int .u32 pc,.int .u32 A,.int .u32 B,.slice p n c] w fun e w'=>e=.returned (cv pc NX 0 0 0 0 ((A+I)%4294967296) m L false 0)/\Below w.heap.size w w':=by
 have hz:((m:Int)==0)=false:=beq_eq_false_iff_ne.2 (by omega)
 have hm1:(m:Int)<=4:=by omega
 go_enter func108,ntmps108
 go_wp2_with fail
 refine(CM _).mono ?_
 rintro e w' ⟨rfl,rfl⟩
 go_wp2_with fail
 refine(CN _).mono ?_
 rintro e w2 ⟨rfl,hk⟩
 have hs:=hk.size
 simp at hs
 have hr:=(hk.block (w.heap.size+1) (by simp)).trans (heap_alloc2_new _ _ _)
 have hb:Below w.heap.size w w2:=(((Below.refl _ _).alloc (Nat.le_refl _) _).alloc (by simp) _).trans (hk.mono (by simp;omega))
 have HR:Hid (w2.heap[w.heap.size+1]?=some (.cells (ccs 0 0 0 0 0 0 0 0 0 false 0) 64 (0,0))):=hr
 have hs':w.heap.size+1<w2.heap.size:=by omega
 clear hr hk
 go_wp2_with fail
 refine(CW _).mono ?_
 rintro e w' ⟨rfl,rfl⟩
 go_wp2_with(first|(refine wpList_load_row rfl 64 _ rfl _ rfl 64 _ (0,0) _ (heap_alloc_new _ _) underlying64 rfl za ?_)|(refine wpList_store_row rfl 64 _ _ rfl _ _ rfl rfl 64 (ccs 0 0 0 0 0 0 0 0 0 false 0) ((Below.heap_alloc _ _ _ hs').trans HR.out) za rfl (qZ _ _ _ _ _ _ _ _ _ _ _) ?_))
 exact bodyPost_ret (v:=cv pc NX 0 0 0 0 ((A+I)%4294967296) m L false 0) (results_cell_row results108 _ _ _ 64 _ (0,0) _ rfl (setRow_heap _ _ _ _ _ _ ((Below.heap_alloc _ _ _ hs').trans HR.out)) underlying64 rfl za) rfl ⟨rfl,zh (hb.alloc (by omega) _) (by omega) _⟩
theorem zlt(pc T10 NX:Int)(w:World)
  (CN:∀W,Calls prog 107 #[.int .u32 pc] W fun e w'=>e=.returned (cv pc NX 0 0 0 0 0 0 0 false 0)/\Below W.heap.size W w'):
  Calls prog 109 #[.int .u32 pc,.int .u32 1,.int .u32 T10] w fun e w'=>e=.returned (cv pc NX 0 0 0 0 0 0 0 true T10)/\Below w.heap.size w w':=by
 go_enter func109,ntmps109
 go_wp2_with fail
 refine(CN _).mono ?_
 rintro e w2 ⟨rfl,hk⟩
 have hs:=hk.size
 simp at hs
 have hr:=(hk.block w.heap.size (by simp)).trans (heap_alloc_new _ _)
 have hb:Below w.heap.size w w2:=((Below.refl _ _).alloc (Nat.le_refl _) _).trans (hk.mono (by simp))
 have HR:Hid (w2.heap[w.heap.size]?=some (.cells (ccs 0 0 0 0 0 0 0 0 0 false 0) 64 (0,0))):=hr
 have hs':w.heap.size<w2.heap.size:=by omega
 clear hr hk
 go_wp2_with(first|(refine wpList_load_row rfl 64 _ rfl _ rfl 64 _ (0,0) _ (heap_alloc_new _ _) underlying64 rfl za ?_)|(refine wpList_store_row rfl 64 _ _ rfl _ _ rfl rfl 64 (ccs 0 0 0 0 0 0 0 0 0 false 0) ((Below.heap_alloc _ _ _ hs').trans HR.out) za rfl (qZ _ _ _ _ _ _ _ _ _ _ _) ?_))
 exact bodyPost_ret (v:=cv pc NX 0 0 0 0 0 0 0 true T10) (results_cell_row results109 _ _ _ 64 _ (0,0) _ rfl (setRow_heap _ _ _ _ _ _ ((Below.heap_alloc _ _ _ hs').trans HR.out)) underlying64 rfl za) rfl ⟨rfl,zh (hb.alloc (by omega) _) (by omega) _⟩
theorem zlu(pc B:Int)(w:World):
  Calls prog 109 #[.int .u32 pc,.int .u32 0,.int .u32 B] w fun e w'=>e=.returned (cv pc pc 1 0 0 0 0 0 0 false 0)/\Below w.heap.size w w':=by
 go_enter func109,ntmps109
 go_wp2_with fail
 exact bodyPost_ret (v:=cv pc pc 1 0 0 0 0 0 0 false 0) (results_cell_row results109 _ _ _ 64 _ (0,0) _ rfl (heap_alloc_new _ _) underlying64 rfl za) rfl ⟨rfl,(Below.refl _ _).alloc (Nat.le_refl _) _⟩
theorem zlv(pc T17 B:Int)(n0:(T17==0)=false)(n1:(T17==1)=false)(w:World):
  Calls prog 109 #[.int .u32 pc,.int .u32 T17,.int .u32 B] w fun e w'=>e=.returned (cv pc pc 2 5 0 0 0 0 0 false 0)/\Below w.heap.size w w':=by
 go_enter func109,ntmps109
 go_wp2_with fail
 refine(xh pc 5 _).mono ?_
 rintro e w2 ⟨rfl,hk⟩
 have hs:=hk.size
 simp at hs
 have hr:=(hk.block w.heap.size (by simp)).trans (heap_alloc_new _ _)
 go_wp2_with(refine wpList_store_row rfl 64 _ _ rfl _ _ rfl rfl 64 _ hr za rfl (qZ _ _ _ _ _ _ _ _ _ _ _) ?_)
 exact bodyPost_ret (v:=cv pc pc 2 5 0 0 0 0 0 false 0) (results_cell_row results109 _ _ _ 64 _ (0,0) _ rfl (setRow_heap _ _ _ _ _ _ hr) underlying64 rfl za) rfl ⟨rfl,zh (((Below.refl _ _).alloc (Nat.le_refl _) _).trans (hk.mono (by simp))) (by simp) _⟩
theorem zbU(w:World)(A B C:Obj):(((w.alloc A).alloc B).alloc C).drew.heap[w.heap.size]?=some A:=
 (Below.heap_alloc _ _ _ (by simp;omega)).trans (heap_alloc2_old _ _ _)
theorem ki(w:World)(A B C:Obj):(((w.alloc A).alloc B).alloc C).drew.heap[w.heap.size+1+1]?=some C:=by
 have h:=heap_alloc_new ((w.alloc A).alloc B) C
 rw[show((w.alloc A).alloc B).heap.size=w.heap.size+1+1 by simp]at h
 exact h
theorem zgO(H:Array Value)(pc next st ca v at_ many data told:Int)(out:Bool)(hH:H.size=35)(hO:Ones H)(h32:∃z,H[32]?=some (.int .u32 z))(h33:∃z,H[33]?=some (.int .i64 z))(h34:∃z,H[34]?=some (.int .i64 z))(w:World):
  Calls prog 62 #[.agg H,cv pc next st ca 0 v at_ many data out told] w fun e w'=>e=.returned (.agg (((H.setIfInBounds 32 (.int .u32 next)).setIfInBounds 33 (.int .i64 st)).setIfInBounds 34 (.int .i64 ca)))/\Below w.heap.size w w':=by
 obtain⟨z2,h32⟩:=h32
 obtain⟨z3,h33⟩:=h33
 obtain⟨z4,h34⟩:=h34
 have HI:Hid ((prog.info? 27).map (·.size)=some (((H.setIfInBounds 32 (.int .u32 next)).setIfInBounds 33 (.int .i64 st)).setIfInBounds 34 (.int .i64 ca)).size):=by show _=_;rw[qE];simp[hH]
 have HZ:Hid (35=(((H.setIfInBounds 32 (.int .u32 next)).setIfInBounds 33 (.int .i64 st)).setIfInBounds 34 (.int .i64 ca)).size):=by show _=_;simp[hH]
 have HN:Hid (Ones (((H.setIfInBounds 32 (.int .u32 next)).setIfInBounds 33 (.int .i64 st)).setIfInBounds 34 (.int .i64 ca))):=by
  show Ones _
  repeat refine Ones.set ?_ _ _ (by simp[Value.oneCell'])
  exact hO
 clear hH hO
 go_enter func62,ntmps62
 go_wp2_with fail
 go_region
 go_upto_region 4 with fail
 go_wp2_with(first|(refine wpList_load_row rfl 27 _ rfl _ rfl 27 _ (0,0) _ (zbU _ _ _ _) underlying27 rfl HI.out ?_)|(refine wpList_store_row rfl 27 _ _ rfl _ _ rfl rfl 27 _ (ki _ _ _ _) HI.out HZ.out HN.out ?_))
 exact bodyPost_ret (v:=.agg (((H.setIfInBounds 32 (.int .u32 next)).setIfInBounds 33 (.int .i64 st)).setIfInBounds 34 (.int .i64 ca))) (results_cell_row results62 _ _ _ 27 _ (0,0) _ rfl (setRow_heap _ _ _ _ _ _ (ki _ _ _ _)) underlying27 rfl HI.out) rfl ⟨rfl,zh (((((Below.refl _ _).alloc (Nat.le_refl _) _).alloc (by simp) _).alloc (by simp;omega) _).drew) (by omega) _⟩
theorem zgP(H:Array Value)(pc next st ca v at_ many data told:Int)(rd:Nat)(R0:Int)(out:Bool)(hH:H.size=35)(hO:Ones H)(h32:∃z,H[32]?=some (.int .u32 z))(h33:∃z,H[33]?=some (.int .i64 z))(h34:∃z,H[34]?=some (.int .i64 z))(hR:H[rd]?=some (.int .u32 R0))(lr:rd<32)(hz:((rd:Int) != 0)=true)(w:World):
  Calls prog 62 #[.agg H,cv pc next st ca rd v at_ many data out told] w fun e w'=>e=.returned (.agg ((((H.setIfInBounds 32 (.int .u32 next)).setIfInBounds 33 (.int .i64 st)).setIfInBounds 34 (.int .i64 ca)).setIfInBounds rd (.int .u32 v)))/\Below w.heap.size w w':=by
 obtain⟨z2,h32⟩:=h32
 obtain⟨z3,h33⟩:=h33
 obtain⟨z4,h34⟩:=h34
 have HI:Hid ((prog.info? 27).map (·.size)=some ((((H.setIfInBounds 32 (.int .u32 next)).setIfInBounds 33 (.int .i64 st)).setIfInBounds 34 (.int .i64 ca)).setIfInBounds rd (.int .u32 v)).size):=by show _=_;rw[qE];simp[hH]
 have HZ:Hid (35=((((H.setIfInBounds 32 (.int .u32 next)).setIfInBounds 33 (.int .i64 st)).setIfInBounds 34 (.int .i64 ca)).setIfInBounds rd (.int .u32 v)).size):=by show _=_;simp[hH]
 have HN:Hid (Ones ((((H.setIfInBounds 32 (.int .u32 next)).setIfInBounds 33 (.int .i64 st)).setIfInBounds 34 (.int .i64 ca)).setIfInBounds rd (.int .u32 v))):=by
  show Ones _
  repeat refine Ones.set ?_ _ _ (by simp[Value.oneCell'])
  exact hO
 clear hH hO
 have hz1:0<rd:=by simp at hz;omega
 have e32:¬32=rd:=by omega
 have e33:¬33=rd:=by omega
 have e34:¬34=rd:=by omega
 have f32:¬rd=32:=by omega
 have f33:¬rd=33:=by omega
 have f34:¬rd=34:=by omega
 go_enter func62,ntmps62
 go_wp2_with fail
 go_region
 go_upto_region 4 with fail
 go_wp2_with(first|(refine wpList_load_row rfl 27 _ rfl _ rfl 27 _ (0,0) _ (zbU _ _ _ _) underlying27 rfl HI.out ?_)|(refine wpList_store_row rfl 27 _ _ rfl _ _ rfl rfl 27 _ (ki _ _ _ _) HI.out HZ.out HN.out ?_))
 exact bodyPost_ret (v:=.agg ((((H.setIfInBounds 32 (.int .u32 next)).setIfInBounds 33 (.int .i64 st)).setIfInBounds 34 (.int .i64 ca)).setIfInBounds rd (.int .u32 v))) (results_cell_row results62 _ _ _ 27 _ (0,0) _ rfl (setRow_heap _ _ _ _ _ _ (ki _ _ _ _)) underlying27 rfl HI.out) rfl ⟨rfl,zh (((((Below.refl _ _).alloc (Nat.le_refl _) _).alloc (by simp) _).alloc (by simp;omega) _).drew) (by omega) _⟩
def Mem(w:World)(p:Option Addr)(n:Nat)(f:Nat->Int):Prop:=0<n->∃g o,p=some ⟨g,o,none⟩/\Lies w g o n f
theorem Mem.below{w w':World}{p:Option Addr}{n:Nat}{f:Nat->Int}(h:Mem w p n f)(hb:Below w.heap.size w w'):Mem w' p n f:=fun h0=>by
 obtain⟨g,o,rfl,hl⟩:=h h0
 exact⟨g,o,rfl,hl.below hb⟩
theorem Mem.bytes{w:World}{p:Option Addr}{n:Nat}{f:Nat->Int}(h:Mem w p n f):Lib.BytesIn w p n ((List.range n).map f):=fun h0=>by
 obtain⟨g,o,rfl,hl⟩:=h h0
 exact⟨g,o,rfl,fun i hi=>by rw[hl i hi];simp[List.getD,hi]⟩
theorem Mem.ofFr{w:World}{B h n:Nat}{f:Nat->Int}(H:Fr w B h n f):Mem w (some ⟨h,0,none⟩) n f:=fun _=>⟨h,0,rfl,fun i hi=>by rw[Nat.zero_add];exact H.cell i hi⟩
theorem zd7(pc:Int)(p:Option Addr)(n c:Nat)(w:World)(I A B V:Int)(ok:Bool)(rd s1 s2:Nat)(C:Array Value)(hC:Hid (C.size=11/\Ones C))
  (CM:∀W,Below w.heap.size w W->Calls prog 94 #[.slice p n c,.int .i64 11,.int .u32 ((A+I)%4294967296)] W fun e w'=>e=.returned (.tuple #[.int .u32 V,.bool ok])/\w'=W)
  (CF:∀W,Calls prog 73 #[iv 11 rd s1 s2 I,.int .u32 pc,.int .u32 V,.bool ok] W fun e w'=>e=.returned (.agg C)/\Below W.heap.size W w') (a0:0<=A) (a1:A<=4294967295):
  Calls prog 75 #[iv 11 rd s1 s2 I,.int .u32 pc,.int .u32 A,.int .u32 B,.slice p n c] w fun e w'=>e=.returned (.agg C)/\Below w.heap.size w w':=by
 go_enter func75,ntmps75
 go_wp2_with fail
 refine(CM _ (((Below.refl _ _).alloc (Nat.le_refl _) _).alloc (by simp) _)).mono ?_
 rintro e w' ⟨rfl,rfl⟩
 go_wp2_with fail
 refine(CF _).mono ?_
 rintro e w3 ⟨rfl,hk3⟩
 have HZ3:Hid (w3.heap[w.heap.size+1]?=some (.cells (ccs 0 0 0 0 0 0 0 0 0 false 0) 64 (0,0))):=(hk3.block _ (by simp)).trans (heap_alloc2_new _ _ _)
 have hb3:Below w.heap.size w w3:=(((Below.refl _ _).alloc (Nat.le_refl _) _).alloc (by simp) _).trans (hk3.mono (by simp;omega))
 clear hk3
 go_wp2_with(refine wpList_store_row rfl 64 _ _ rfl _ _ rfl rfl 64 (ccs 0 0 0 0 0 0 0 0 0 false 0) HZ3.out (za.trans (congrArg some hC.out.1.symm)) hC.out.1.symm hC.out.2 ?_)
 exact bodyPost_ret (v:=.agg C) (results_cell_row results75 _ _ _ 64 _ (0,0) _ rfl (setRow_heap _ _ _ _ _ _ HZ3.out) underlying64 rfl (za.trans (congrArg some hC.out.1.symm))) rfl ⟨rfl,zh hb3 (by omega) _⟩
theorem zd8(pc:Int)(p:Option Addr)(n c:Nat)(w:World)(I A B V:Int)(ok:Bool)(rd s1 s2:Nat)(C:Array Value)(hC:Hid (C.size=11/\Ones C))
  (CM:∀W,Below w.heap.size w W->Calls prog 94 #[.slice p n c,.int .i64 12,.int .u32 ((A+I)%4294967296)] W fun e w'=>e=.returned (.tuple #[.int .u32 V,.bool ok])/\w'=W)
  (CF:∀W,Calls prog 73 #[iv 12 rd s1 s2 I,.int .u32 pc,.int .u32 V,.bool ok] W fun e w'=>e=.returned (.agg C)/\Below W.heap.size W w') (a0:0<=A) (a1:A<=4294967295):
  Calls prog 75 #[iv 12 rd s1 s2 I,.int .u32 pc,.int .u32 A,.int .u32 B,.slice p n c] w fun e w'=>e=.returned (.agg C)/\Below w.heap.size w w':=by
 go_enter func75,ntmps75
 go_wp2_with fail
 refine(CM _ (((Below.refl _ _).alloc (Nat.le_refl _) _).alloc (by simp) _)).mono ?_
 rintro e w' ⟨rfl,rfl⟩
 go_wp2_with fail
 refine(CF _).mono ?_
 rintro e w3 ⟨rfl,hk3⟩
 have HZ3:Hid (w3.heap[w.heap.size+1]?=some (.cells (ccs 0 0 0 0 0 0 0 0 0 false 0) 64 (0,0))):=(hk3.block _ (by simp)).trans (heap_alloc2_new _ _ _)
 have hb3:Below w.heap.size w w3:=(((Below.refl _ _).alloc (Nat.le_refl _) _).alloc (by simp) _).trans (hk3.mono (by simp;omega))
 clear hk3
 go_wp2_with(refine wpList_store_row rfl 64 _ _ rfl _ _ rfl rfl 64 (ccs 0 0 0 0 0 0 0 0 0 false 0) HZ3.out (za.trans (congrArg some hC.out.1.symm)) hC.out.1.symm hC.out.2 ?_)
 exact bodyPost_ret (v:=.agg C) (results_cell_row results75 _ _ _ 64 _ (0,0) _ rfl (setRow_heap _ _ _ _ _ _ HZ3.out) underlying64 rfl (za.trans (congrArg some hC.out.1.symm))) rfl ⟨rfl,zh hb3 (by omega) _⟩
theorem zd9(pc:Int)(p:Option Addr)(n c:Nat)(w:World)(I A B V:Int)(ok:Bool)(rd s1 s2:Nat)(C:Array Value)(hC:Hid (C.size=11/\Ones C))
  (CM:∀W,Below w.heap.size w W->Calls prog 94 #[.slice p n c,.int .i64 13,.int .u32 ((A+I)%4294967296)] W fun e w'=>e=.returned (.tuple #[.int .u32 V,.bool ok])/\w'=W)
  (CF:∀W,Calls prog 73 #[iv 13 rd s1 s2 I,.int .u32 pc,.int .u32 V,.bool ok] W fun e w'=>e=.returned (.agg C)/\Below W.heap.size W w') (a0:0<=A) (a1:A<=4294967295):
  Calls prog 75 #[iv 13 rd s1 s2 I,.int .u32 pc,.int .u32 A,.int .u32 B,.slice p n c] w fun e w'=>e=.returned (.agg C)/\Below w.heap.size w w':=by
 go_enter func75,ntmps75
 go_wp2_with fail
 refine(CM _ (((Below.refl _ _).alloc (Nat.le_refl _) _).alloc (by simp) _)).mono ?_
 rintro e w' ⟨rfl,rfl⟩
 go_wp2_with fail
 refine(CF _).mono ?_
 rintro e w3 ⟨rfl,hk3⟩
 have HZ3:Hid (w3.heap[w.heap.size+1]?=some (.cells (ccs 0 0 0 0 0 0 0 0 0 false 0) 64 (0,0))):=(hk3.block _ (by simp)).trans (heap_alloc2_new _ _ _)
 have hb3:Below w.heap.size w w3:=(((Below.refl _ _).alloc (Nat.le_refl _) _).alloc (by simp) _).trans (hk3.mono (by simp;omega))
 clear hk3
 go_wp2_with(refine wpList_store_row rfl 64 _ _ rfl _ _ rfl rfl 64 (ccs 0 0 0 0 0 0 0 0 0 false 0) HZ3.out (za.trans (congrArg some hC.out.1.symm)) hC.out.1.symm hC.out.2 ?_)
 exact bodyPost_ret (v:=.agg C) (results_cell_row results75 _ _ _ 64 _ (0,0) _ rfl (setRow_heap _ _ _ _ _ _ HZ3.out) underlying64 rfl (za.trans (congrArg some hC.out.1.symm))) rfl ⟨rfl,zh hb3 (by omega) _⟩
theorem zea(pc:Int)(p:Option Addr)(n c:Nat)(w:World)(I A B V:Int)(ok:Bool)(rd s1 s2:Nat)(C:Array Value)(hC:Hid (C.size=11/\Ones C))
  (CM:∀W,Below w.heap.size w W->Calls prog 94 #[.slice p n c,.int .i64 14,.int .u32 ((A+I)%4294967296)] W fun e w'=>e=.returned (.tuple #[.int .u32 V,.bool ok])/\w'=W)
  (CF:∀W,Calls prog 73 #[iv 14 rd s1 s2 I,.int .u32 pc,.int .u32 V,.bool ok] W fun e w'=>e=.returned (.agg C)/\Below W.heap.size W w') (a0:0<=A) (a1:A<=4294967295):
  Calls prog 75 #[iv 14 rd s1 s2 I,.int .u32 pc,.int .u32 A,.int .u32 B,.slice p n c] w fun e w'=>e=.returned (.agg C)/\Below w.heap.size w w':=by
 go_enter func75,ntmps75
 go_wp2_with fail
 refine(CM _ (((Below.refl _ _).alloc (Nat.le_refl _) _).alloc (by simp) _)).mono ?_
 rintro e w' ⟨rfl,rfl⟩
 go_wp2_with fail
 refine(CF _).mono ?_
 rintro e w3 ⟨rfl,hk3⟩
 have HZ3:Hid (w3.heap[w.heap.size+1]?=some (.cells (ccs 0 0 0 0 0 0 0 0 0 false 0) 64 (0,0))):=(hk3.block _ (by simp)).trans (heap_alloc2_new _ _ _)
 have hb3:Below w.heap.size w w3:=(((Below.refl _ _).alloc (Nat.le_refl _) _).alloc (by simp) _).trans (hk3.mono (by simp;omega))
 clear hk3
 go_wp2_with(refine wpList_store_row rfl 64 _ _ rfl _ _ rfl rfl 64 (ccs 0 0 0 0 0 0 0 0 0 false 0) HZ3.out (za.trans (congrArg some hC.out.1.symm)) hC.out.1.symm hC.out.2 ?_)
 exact bodyPost_ret (v:=.agg C) (results_cell_row results75 _ _ _ 64 _ (0,0) _ rfl (setRow_heap _ _ _ _ _ _ HZ3.out) underlying64 rfl (za.trans (congrArg some hC.out.1.symm))) rfl ⟨rfl,zh hb3 (by omega) _⟩
theorem zeb(pc:Int)(p:Option Addr)(n c:Nat)(w:World)(I A B V:Int)(ok:Bool)(rd s1 s2:Nat)(C:Array Value)(hC:Hid (C.size=11/\Ones C))
  (CM:∀W,Below w.heap.size w W->Calls prog 94 #[.slice p n c,.int .i64 15,.int .u32 ((A+I)%4294967296)] W fun e w'=>e=.returned (.tuple #[.int .u32 V,.bool ok])/\w'=W)
  (CF:∀W,Calls prog 73 #[iv 15 rd s1 s2 I,.int .u32 pc,.int .u32 V,.bool ok] W fun e w'=>e=.returned (.agg C)/\Below W.heap.size W w') (a0:0<=A) (a1:A<=4294967295):
  Calls prog 75 #[iv 15 rd s1 s2 I,.int .u32 pc,.int .u32 A,.int .u32 B,.slice p n c] w fun e w'=>e=.returned (.agg C)/\Below w.heap.size w w':=by
 go_enter func75,ntmps75
 go_wp2_with fail
 refine(CM _ (((Below.refl _ _).alloc (Nat.le_refl _) _).alloc (by simp) _)).mono ?_
 rintro e w' ⟨rfl,rfl⟩
 go_wp2_with fail
 refine(CF _).mono ?_
 rintro e w3 ⟨rfl,hk3⟩
 have HZ3:Hid (w3.heap[w.heap.size+1]?=some (.cells (ccs 0 0 0 0 0 0 0 0 0 false 0) 64 (0,0))):=(hk3.block _ (by simp)).trans (heap_alloc2_new _ _ _)
 have hb3:Below w.heap.size w w3:=(((Below.refl _ _).alloc (Nat.le_refl _) _).alloc (by simp) _).trans (hk3.mono (by simp;omega))
 clear hk3
 go_wp2_with(refine wpList_store_row rfl 64 _ _ rfl _ _ rfl rfl 64 (ccs 0 0 0 0 0 0 0 0 0 false 0) HZ3.out (za.trans (congrArg some hC.out.1.symm)) hC.out.1.symm hC.out.2 ?_)
 exact bodyPost_ret (v:=.agg C) (results_cell_row results75 _ _ _ 64 _ (0,0) _ rfl (setRow_heap _ _ _ _ _ _ HZ3.out) underlying64 rfl (za.trans (congrArg some hC.out.1.symm))) rfl ⟨rfl,zh hb3 (by omega) _⟩
theorem zbV(pc:Int)(p:Option Addr)(n c:Nat)(w:World)(I A B:Int)(rd s1 s2:Nat)(C:Array Value)(hC:Hid (C.size=11/\Ones C))
  (CF:∀W,Below w.heap.size w W->Calls prog 108 #[iv 16 rd s1 s2 I,.int .u32 pc,.int .u32 A,.int .u32 B,.slice p n c] W fun e w'=>e=.returned (.agg C)/\Below W.heap.size W w'):
  Calls prog 75 #[iv 16 rd s1 s2 I,.int .u32 pc,.int .u32 A,.int .u32 B,.slice p n c] w fun e w'=>e=.returned (.agg C)/\Below w.heap.size w w':=by
 go_enter func75,ntmps75
 go_wp2_with fail
 refine(CF _ (((Below.refl _ _).alloc (Nat.le_refl _) _).alloc (by simp) _)).mono ?_
 rintro e w3 ⟨rfl,hk3⟩
 have HZ3:Hid (w3.heap[w.heap.size+1]?=some (.cells (ccs 0 0 0 0 0 0 0 0 0 false 0) 64 (0,0))):=(hk3.block _ (by simp)).trans (heap_alloc2_new _ _ _)
 have hb3:Below w.heap.size w w3:=(((Below.refl _ _).alloc (Nat.le_refl _) _).alloc (by simp) _).trans (hk3.mono (by simp;omega))
 clear hk3
 go_wp2_with(refine wpList_store_row rfl 64 _ _ rfl _ _ rfl rfl 64 (ccs 0 0 0 0 0 0 0 0 0 false 0) HZ3.out (za.trans (congrArg some hC.out.1.symm)) hC.out.1.symm hC.out.2 ?_)
 exact bodyPost_ret (v:=.agg C) (results_cell_row results75 _ _ _ 64 _ (0,0) _ rfl (setRow_heap _ _ _ _ _ _ HZ3.out) underlying64 rfl (za.trans (congrArg some hC.out.1.symm))) rfl ⟨rfl,zh hb3 (by omega) _⟩
theorem zbW(pc:Int)(p:Option Addr)(n c:Nat)(w:World)(I A B:Int)(rd s1 s2:Nat)(C:Array Value)(hC:Hid (C.size=11/\Ones C))
  (CF:∀W,Below w.heap.size w W->Calls prog 108 #[iv 17 rd s1 s2 I,.int .u32 pc,.int .u32 A,.int .u32 B,.slice p n c] W fun e w'=>e=.returned (.agg C)/\Below W.heap.size W w'):
  Calls prog 75 #[iv 17 rd s1 s2 I,.int .u32 pc,.int .u32 A,.int .u32 B,.slice p n c] w fun e w'=>e=.returned (.agg C)/\Below w.heap.size w w':=by
 go_enter func75,ntmps75
 go_wp2_with fail
 refine(CF _ (((Below.refl _ _).alloc (Nat.le_refl _) _).alloc (by simp) _)).mono ?_
 rintro e w3 ⟨rfl,hk3⟩
 have HZ3:Hid (w3.heap[w.heap.size+1]?=some (.cells (ccs 0 0 0 0 0 0 0 0 0 false 0) 64 (0,0))):=(hk3.block _ (by simp)).trans (heap_alloc2_new _ _ _)
 have hb3:Below w.heap.size w w3:=(((Below.refl _ _).alloc (Nat.le_refl _) _).alloc (by simp) _).trans (hk3.mono (by simp;omega))
 clear hk3
 go_wp2_with(refine wpList_store_row rfl 64 _ _ rfl _ _ rfl rfl 64 (ccs 0 0 0 0 0 0 0 0 0 false 0) HZ3.out (za.trans (congrArg some hC.out.1.symm)) hC.out.1.symm hC.out.2 ?_)
 exact bodyPost_ret (v:=.agg C) (results_cell_row results75 _ _ _ 64 _ (0,0) _ rfl (setRow_heap _ _ _ _ _ _ HZ3.out) underlying64 rfl (za.trans (congrArg some hC.out.1.symm))) rfl ⟨rfl,zh hb3 (by omega) _⟩
theorem zbX(pc:Int)(p:Option Addr)(n c:Nat)(w:World)(I A B:Int)(rd s1 s2:Nat)(C:Array Value)(hC:Hid (C.size=11/\Ones C))
  (CF:∀W,Below w.heap.size w W->Calls prog 108 #[iv 18 rd s1 s2 I,.int .u32 pc,.int .u32 A,.int .u32 B,.slice p n c] W fun e w'=>e=.returned (.agg C)/\Below W.heap.size W w'):
  Calls prog 75 #[iv 18 rd s1 s2 I,.int .u32 pc,.int .u32 A,.int .u32 B,.slice p n c] w fun e w'=>e=.returned (.agg C)/\Below w.heap.size w w':=by
 go_enter func75,ntmps75
 go_wp2_with fail
 refine(CF _ (((Below.refl _ _).alloc (Nat.le_refl _) _).alloc (by simp) _)).mono ?_
 rintro e w3 ⟨rfl,hk3⟩
 have HZ3:Hid (w3.heap[w.heap.size+1]?=some (.cells (ccs 0 0 0 0 0 0 0 0 0 false 0) 64 (0,0))):=(hk3.block _ (by simp)).trans (heap_alloc2_new _ _ _)
 have hb3:Below w.heap.size w w3:=(((Below.refl _ _).alloc (Nat.le_refl _) _).alloc (by simp) _).trans (hk3.mono (by simp;omega))
 clear hk3
 go_wp2_with(refine wpList_store_row rfl 64 _ _ rfl _ _ rfl rfl 64 (ccs 0 0 0 0 0 0 0 0 0 false 0) HZ3.out (za.trans (congrArg some hC.out.1.symm)) hC.out.1.symm hC.out.2 ?_)
 exact bodyPost_ret (v:=.agg C) (results_cell_row results75 _ _ _ 64 _ (0,0) _ rfl (setRow_heap _ _ _ _ _ _ HZ3.out) underlying64 rfl (za.trans (congrArg some hC.out.1.symm))) rfl ⟨rfl,zh hb3 (by omega) _⟩
theorem zlw(pc:Int)(p:Option Addr)(n c:Nat)(w:World)(I A B:Int)(rd s1 s2:Nat)(C:Array Value)(hC:Hid (C.size=11/\Ones C))
  (CF:∀W,Below w.heap.size w W->Calls prog 107 #[.int .u32 pc] W fun e w'=>e=.returned (.agg C)/\Below W.heap.size W w'):
  Calls prog 75 #[iv 46 rd s1 s2 I,.int .u32 pc,.int .u32 A,.int .u32 B,.slice p n c] w fun e w'=>e=.returned (.agg C)/\Below w.heap.size w w':=by
 go_enter func75,ntmps75
 go_wp2_with fail
 refine(CF _ (((Below.refl _ _).alloc (Nat.le_refl _) _).alloc (by simp) _)).mono ?_
 rintro e w3 ⟨rfl,hk3⟩
 have HZ3:Hid (w3.heap[w.heap.size+1]?=some (.cells (ccs 0 0 0 0 0 0 0 0 0 false 0) 64 (0,0))):=(hk3.block _ (by simp)).trans (heap_alloc2_new _ _ _)
 have hb3:Below w.heap.size w w3:=(((Below.refl _ _).alloc (Nat.le_refl _) _).alloc (by simp) _).trans (hk3.mono (by simp;omega))
 clear hk3
 go_wp2_with(refine wpList_store_row rfl 64 _ _ rfl _ _ rfl rfl 64 (ccs 0 0 0 0 0 0 0 0 0 false 0) HZ3.out (za.trans (congrArg some hC.out.1.symm)) hC.out.1.symm hC.out.2 ?_)
 exact bodyPost_ret (v:=.agg C) (results_cell_row results75 _ _ _ 64 _ (0,0) _ rfl (setRow_heap _ _ _ _ _ _ HZ3.out) underlying64 rfl (za.trans (congrArg some hC.out.1.symm))) rfl ⟨rfl,zh hb3 (by omega) _⟩
theorem zgQ(pc:Int)(p:Option Addr)(n c:Nat)(w:World)(I A B:Int)(rd s1 s2:Nat)(C:Array Value)(hC:Hid (C.size=11/\Ones C))
  (CF:∀W,Below w.heap.size w W->Calls prog 109 #[.int .u32 pc,.int .u32 A,.int .u32 B] W fun e w'=>e=.returned (.agg C)/\Below W.heap.size W w'):
  Calls prog 75 #[iv 47 rd s1 s2 I,.int .u32 pc,.int .u32 A,.int .u32 B,.slice p n c] w fun e w'=>e=.returned (.agg C)/\Below w.heap.size w w':=by
 go_enter func75,ntmps75
 go_wp2_with fail
 refine(CF _ (((Below.refl _ _).alloc (Nat.le_refl _) _).alloc (by simp) _)).mono ?_
 rintro e w3 ⟨rfl,hk3⟩
 have HZ3:Hid (w3.heap[w.heap.size+1]?=some (.cells (ccs 0 0 0 0 0 0 0 0 0 false 0) 64 (0,0))):=(hk3.block _ (by simp)).trans (heap_alloc2_new _ _ _)
 have hb3:Below w.heap.size w w3:=(((Below.refl _ _).alloc (Nat.le_refl _) _).alloc (by simp) _).trans (hk3.mono (by simp;omega))
 clear hk3
 go_wp2_with(refine wpList_store_row rfl 64 _ _ rfl _ _ rfl rfl 64 (ccs 0 0 0 0 0 0 0 0 0 false 0) HZ3.out (za.trans (congrArg some hC.out.1.symm)) hC.out.1.symm hC.out.2 ?_)
 exact bodyPost_ret (v:=.agg C) (results_cell_row results75 _ _ _ 64 _ (0,0) _ rfl (setRow_heap _ _ _ _ _ _ HZ3.out) underlying64 rfl (za.trans (congrArg some hC.out.1.symm))) rfl ⟨rfl,zh hb3 (by omega) _⟩
theorem zlx(pc:Int)(p:Option Addr)(n c:Nat)(w:World)(I A B:Int)(rd s1 s2:Nat)(C:Array Value)(hC:Hid (C.size=11/\Ones C))
  (CF:∀W,Below w.heap.size w W->Calls prog 105 #[.int .u32 pc,.int .i64 6] W fun e w'=>e=.returned (.agg C)/\Below W.heap.size W w'):
  Calls prog 75 #[iv 48 rd s1 s2 I,.int .u32 pc,.int .u32 A,.int .u32 B,.slice p n c] w fun e w'=>e=.returned (.agg C)/\Below w.heap.size w w':=by
 go_enter func75,ntmps75
 go_wp2_with fail
 refine(CF _ (((Below.refl _ _).alloc (Nat.le_refl _) _).alloc (by simp) _)).mono ?_
 rintro e w3 ⟨rfl,hk3⟩
 have HZ3:Hid (w3.heap[w.heap.size+1]?=some (.cells (ccs 0 0 0 0 0 0 0 0 0 false 0) 64 (0,0))):=(hk3.block _ (by simp)).trans (heap_alloc2_new _ _ _)
 have hb3:Below w.heap.size w w3:=(((Below.refl _ _).alloc (Nat.le_refl _) _).alloc (by simp) _).trans (hk3.mono (by simp;omega))
 clear hk3
 go_wp2_with(refine wpList_store_row rfl 64 _ _ rfl _ _ rfl rfl 64 (ccs 0 0 0 0 0 0 0 0 0 false 0) HZ3.out (za.trans (congrArg some hC.out.1.symm)) hC.out.1.symm hC.out.2 ?_)
 exact bodyPost_ret (v:=.agg C) (results_cell_row results75 _ _ _ 64 _ (0,0) _ rfl (setRow_heap _ _ _ _ _ _ HZ3.out) underlying64 rfl (za.trans (congrArg some hC.out.1.symm))) rfl ⟨rfl,zh hb3 (by omega) _⟩
theorem jr{w2s bs:Nat}{W w:World}{b j:Nat}{v:Value}(h:∀b,b<w2s->b≠bs->w.heap[b]?=W.heap[b]?)(hb:b<w2s)(hn:b≠bs)(hv:W.cell? ⟨b,j,none⟩=some v):w.cell? ⟨b,j,none⟩=some v:=
 (World.cell?_of_block (w:=W) (a:=⟨b,j,none⟩) (h b hb hn)).trans hv
theorem znR(pc:Int)(p:Option Addr)(n c:Nat)(w:World)(I A B M NX V:Int)(rd s1 s2:Nat)(C:Array Value)(hC:Hid (C.size=11/\Ones C))(h1:1<=M)(hM:M<11\/18<M)(hM2:M<46)
  (CX:∀W,Below w.heap.size w W->Calls prog 110 #[iv M rd s1 s2 I,.int .u32 pc,.int .u32 A,.int .u32 B] W fun e w'=>e=.returned (.int .u32 NX)/\Below W.heap.size W w')
  (CR:∀W,Below w.heap.size w W->Calls prog 111 #[iv M rd s1 s2 I,.int .u32 pc,.int .u32 A,.int .u32 B] W fun e w'=>e=.returned (.int .u32 V)/\Below W.heap.size W w')
  (CG:∀W,Calls prog 106 #[cv pc NX 0 0 0 0 0 0 0 false 0,.int .i64 rd,.int .u32 V] W fun e w'=>e=.returned (.agg C)/\Below W.heap.size W w'):
  Calls prog 75 #[iv M rd s1 s2 I,.int .u32 pc,.int .u32 A,.int .u32 B,.slice p n c] w fun e w'=>e=.returned (.agg C)/\Below w.heap.size w w':=by
 have q11:(M==11)=false:=beq_eq_false_iff_ne.2 (by omega)
 have q12:(M==12)=false:=beq_eq_false_iff_ne.2 (by omega)
 have q13:(M==13)=false:=beq_eq_false_iff_ne.2 (by omega)
 have q14:(M==14)=false:=beq_eq_false_iff_ne.2 (by omega)
 have q15:(M==15)=false:=beq_eq_false_iff_ne.2 (by omega)
 have q16:(M==16)=false:=beq_eq_false_iff_ne.2 (by omega)
 have q17:(M==17)=false:=beq_eq_false_iff_ne.2 (by omega)
 have q18:(M==18)=false:=beq_eq_false_iff_ne.2 (by omega)
 have q46:(M==46)=false:=beq_eq_false_iff_ne.2 (by omega)
 have q47:(M==47)=false:=beq_eq_false_iff_ne.2 (by omega)
 have q48:(M==48)=false:=beq_eq_false_iff_ne.2 (by omega)
 have ql:decide (M<1)=false:=decide_eq_false (by omega)
 have qg:decide ((48:Int)<M)=false:=decide_eq_false (by omega)
 clear hM hM2 h1
 go_enter func75,ntmps75
 go_wp2_with fail
 obtain⟨W,hW⟩:∃W:World,W=(w.alloc (.cells #[.int .i64 M,.int .i64 rd,.int .i64 s1,.int .i64 s2,.int .i32 I] 77)).alloc (.cells (ccs 0 0 0 0 0 0 0 0 0 false 0) 64):=⟨_,rfl⟩
 rw[<-hW]
 have r24:W.heap[w.heap.size]?=some (.cells #[.int .i64 M,.int .i64 rd,.int .i64 s1,.int .i64 s2,.int .i32 I] 77 (0,0)):=by rw[hW];exact heap_alloc2_old _ _ _
 have R38:Hid (W.heap[w.heap.size+1]?=some (.cells (ccs 0 0 0 0 0 0 0 0 0 false 0) 64 (0,0))):=by rw[hW];exact heap_alloc2_new _ _ _
 have hsz:w.heap.size+2<=W.heap.size:=by rw[hW];simp
 have hb:Below w.heap.size w W:=by rw[hW];exact((Below.refl _ _).alloc (Nat.le_refl _) _).alloc (by simp) _
 have y0:=(cell_of_row W w.heap.size 0 _ _ _ r24).trans rfl
 have y1:=(cell_of_row W w.heap.size 1 _ _ _ r24).trans rfl
 have y2:=(cell_of_row W w.heap.size 2 _ _ _ r24).trans rfl
 have y3:=(cell_of_row W w.heap.size 3 _ _ _ r24).trans rfl
 have y4:=(cell_of_row W w.heap.size 4 _ _ _ r24).trans rfl
 have a1:w.heap.size<w.heap.size+2:=by omega
 have a2:w.heap.size+1<w.heap.size+2:=by omega
 clear hW r24
 refine wp_region_held_drew (S:=fun w'=>∀b,b<w.heap.size+2->b≠w.heap.size+1->w'.heap[b]?=W.heap[b]?) (by kernel_rfl) (fun _ _ _=>rfl) (fun hH=>?_)
 refine Co.tI 0 (.int .u32 pc) rfl hH ?_
 try simp only[Act.put,List.setIfInBounds_toArray,List.set_cons_zero,List.set_cons_succ]
 refine Co.tH 1 (.agg #[.int .i64 M,.int .i64 rd,.int .i64 s1,.int .i64 s2,.int .i32 I]) rfl (Or.inl ⟨by rfl,by intro w hSw;have hc0:=jr hSw a1 (by omega) y0;have hc1:=jr hSw a1 (by omega) y1;have hc2:=jr hSw a1 (by omega) y2;have hc3:=jr hSw a1 (by omega) y3;have hc4:=jr hSw a1 (by omega) y4;go_simp⟩) hH ?_
 try simp only[Act.put,List.setIfInBounds_toArray,List.set_cons_zero,List.set_cons_succ]
 refine Co.tI 2 (.int .u32 pc) rfl hH ?_
 try simp only[Act.put,List.setIfInBounds_toArray,List.set_cons_zero,List.set_cons_succ]
 refine Co.tI 3 (.int .u32 A) rfl hH ?_
 try simp only[Act.put,List.setIfInBounds_toArray,List.set_cons_zero,List.set_cons_succ]
 refine Co.tI 4 (.int .u32 B) rfl hH ?_
 try simp only[Act.put,List.setIfInBounds_toArray,List.set_cons_zero,List.set_cons_succ]
 refine Co.tI 7 (.pointer (some ⟨w.heap.size,1,none⟩)) rfl hH ?_
 try simp only[Act.put,List.setIfInBounds_toArray,List.set_cons_zero,List.set_cons_succ]
 refine Co.tH 8 (.int .i64 rd) rfl (Or.inl ⟨by rfl,by intro w hSw;have hc:=jr hSw a1 (by omega) y1;go_simp⟩) hH ?_
 try simp only[Act.put,List.setIfInBounds_toArray,List.set_cons_zero,List.set_cons_succ]
 refine Co.tH 9 (.agg #[.int .i64 M,.int .i64 rd,.int .i64 s1,.int .i64 s2,.int .i32 I]) rfl (Or.inl ⟨by rfl,by intro w hSw;have hc0:=jr hSw a1 (by omega) y0;have hc1:=jr hSw a1 (by omega) y1;have hc2:=jr hSw a1 (by omega) y2;have hc3:=jr hSw a1 (by omega) y3;have hc4:=jr hSw a1 (by omega) y4;go_simp⟩) hH ?_
 try simp only[Act.put,List.setIfInBounds_toArray,List.set_cons_zero,List.set_cons_succ]
 refine Co.tI 10 (.int .u32 pc) rfl hH ?_
 try simp only[Act.put,List.setIfInBounds_toArray,List.set_cons_zero,List.set_cons_succ]
 refine Co.tI 11 (.int .u32 A) rfl hH ?_
 try simp only[Act.put,List.setIfInBounds_toArray,List.set_cons_zero,List.set_cons_succ]
 refine Co.tI 12 (.int .u32 B) rfl hH ?_
 try simp only[Act.put,List.setIfInBounds_toArray,List.set_cons_zero,List.set_cons_succ]
 refine wpAnyH_ready (rs:=[5]) (by kernel_rfl) (by simp) ?_
 refine AllReadyH.cons rfl (fun K hK=>?_) AllReadyH.nil
 go_simp
 refine(CX _ hb.drew).mono ?_
 rintro e w3 ⟨rfl,hk3⟩
 have hB3:Below W.heap.size W w3:=zi hk3 (Nat.le_refl _)
 go_wp2_with fail
 refine hK.out _ _ (fun b hb _=>hB3.block b (by omega)) (fun hH=>?_)
 clear hK K
 try simp only[Act.put,List.setIfInBounds_toArray,List.set_cons_zero,List.set_cons_succ]
 refine Co.tI 6 (cv pc NX 0 0 0 0 0 0 0 false 0) rfl hH ?_
 try simp only[Act.put,List.setIfInBounds_toArray,List.set_cons_zero,List.set_cons_succ]
 refine wpAnyH_ready (rs:=[13]) (by kernel_rfl) (by simp) ?_
 refine AllReadyH.cons rfl (fun K hK=>?_) AllReadyH.nil
 go_simp
 refine(CR _ (hb.trans (hB3.mono (by omega)))).mono ?_
 rintro e w4 ⟨rfl,hk4⟩
 have hB4:Below W.heap.size W w4:=kX hB3 hk4 (Nat.le_refl _)
 go_wp2_with fail
 refine hK.out _ _ (fun b hb _=>hB4.block b (by omega)) (fun hH=>?_)
 clear hK K
 try simp only[Act.put,List.setIfInBounds_toArray,List.set_cons_zero,List.set_cons_succ]
 refine wpAnyH_ready (rs:=[14]) (by kernel_rfl) (by simp) ?_
 refine AllReadyH.cons rfl (fun K hK=>?_) AllReadyH.nil
 go_simp
 refine(CG _).mono ?_
 rintro e w5 ⟨rfl,hk5⟩
 have hB5:Below W.heap.size W w5:=kX hB4 hk5 (Nat.le_refl _)
 go_wp2_with fail
 refine hK.out _ _ (fun b hb _=>hB5.block b (by omega)) (fun hH=>?_)
 clear hK K
 try simp only[Act.put,List.setIfInBounds_toArray,List.set_cons_zero,List.set_cons_succ]
 refine wpAnyH_ready (rs:=[15]) (by kernel_rfl) (by simp) ?_
 refine AllReadyH.cons rfl (fun K hK=>?_) AllReadyH.nil
 rw[if_pos (by rfl)]
 refine wp_store_row 64 _ _ rfl _ _ rfl rfl 64 (ccs 0 0 0 0 0 0 0 0 0 false 0) (jz hB5 (by omega) R38.out) (za.trans (congrArg some hC.out.1.symm)) hC.out.1.symm hC.out.2 ?_
 refine hK.out _ _ (fun b hb hn=>(setRow_other _ _ _ _ hn).trans (hB5.block b (by omega))) (fun hH=>?_)
 clear hK K
 refine wpAnyH_done (by kernel_rfl) ?_ _
 go_wp2_with fail
 exact bodyPost_ret (v:=.agg C) (results_cell_row results75 _ _ _ 64 _ (0,0) _ rfl (setRow_heap _ _ _ _ _ _ (jz hB5 (by omega) R38.out)) underlying64 rfl (za.trans (congrArg some hC.out.1.symm))) rfl ⟨rfl,zh (hb.trans (hB5.mono (by omega))) (by omega) _⟩
end Go.Proofs.YtpiohehijkpghabGreatDoor
