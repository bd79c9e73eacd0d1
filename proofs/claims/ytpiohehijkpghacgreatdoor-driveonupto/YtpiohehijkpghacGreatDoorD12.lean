/- What kinds answers: how each instruction is told. -/
import Derived.Laws.DeepBits32
import Derived.Shelf.Bytes.SlEqualAll
import Derived.Test.YtpiohehijkpghacGreatDoorD11
open Go renaming results_cell_row->Ac,bodyPost_ret->Ae,wpList_store_row->Ah,setRow_heap->Ai,heap_alloc2_new->Aj,wpList_load_row->Al,wpAnyH_ready->As,heap_alloc2_old->At
open Go.Act renaming put->Ao
open Go.AllReadyH renaming cons->Aq,nil->Ar
open Go.RowKit.Below renaming refl->Ab,heap_alloc->Ak
open Go.Value renaming oneCell'->Au
open Go.World renaming block_lt_of_cell?->Am
open List renaming setIfInBounds_toArray->Ad,set_cons_zero->Af,set_cons_succ->Ag
open Nat renaming le_refl->Aa,testBit_two_pow_mul->An,pow_le_pow_right->Ap,le_trans->Av
set_option maxHeartbeats 4000000
set_option maxRecDepth 100000
set_option linter.unusedSimpArgs false
set_option linter.unusedVariables false
open Go.Proofs.Tryz
namespace Go.Proofs.YtpiohehijkpghacGreatDoor
open Go.RowKit
open Hy
theorem zef(H:Array Value)(z0 st ca:Int)(h0:H[0]?=some (.int .u32 z0))(h33:H[33]?=some (.int .i64 st))(h34:H[34]?=some (.int .i64 ca))(w:World):
  Calls prog 25 #[.agg H] w fun e w'=>e=.returned (.bool (z0==0&&(((st==0||st==1)&&ca==0)||(st==2&&decide (1<=ca)&&decide (ca<=6)))))/\Below w.heap.size w w':=by
 go_enter func25,ntmps25
 go_wp2
 all_goals(go_ret;refine⟨?_,(Ab _ _).alloc (Aa _) _⟩)
 all_goals(simp_all;try omega)
theorem jo(pc k:Int)(w:World):
  Calls prog 99 #[.int .u32 pc,.int .i64 k] w fun e w'=>e=.returned (cv pc pc 2 k 0 0 0 0 0 false 0)/\Below w.heap.size w w':=by
 go_enter func99,ntmps99
 go_wp2
 exact Ae (v:=cv pc pc 2 k 0 0 0 0 0 false 0) (Ac results99 _ _ _ 68 _ (0,0) _ rfl (heap_alloc_new _ _) underlying68 rfl za) rfl ⟨rfl,(Ab _ _).alloc (Aa _) _⟩
theorem zG(pc:Int)(p0:0<=pc)(p1:pc<=4294967295)(w:World):
  Calls prog 130 #[.int .u32 pc] w fun e w'=>e=.returned (cv pc ((pc+4)%4294967296) 0 0 0 0 0 0 0 false 0)/\Below w.heap.size w w':=by
 go_enter func130,ntmps130
 go_wp2
 exact Ae (v:=cv pc ((pc+4)%4294967296) 0 0 0 0 0 0 0 false 0) (Ac results130 _ _ _ 68 _ (0,0) _ rfl (heap_alloc_new _ _) underlying68 rfl za) rfl ⟨rfl,(Ab _ _).alloc (Aa _) _⟩
theorem zeg(pc next v:Int)(w:World):
  Calls prog 129 #[cv pc next 0 0 0 0 0 0 0 false 0,.int .i64 0,.int .u32 v] w fun e w'=>e=.returned (cv pc next 0 0 0 0 0 0 0 false 0)/\Below w.heap.size w w':=by
 go_enter func129,ntmps129
 go_wp2
 exact Ae (v:=cv pc next 0 0 0 0 0 0 0 false 0) (Ac results129 _ _ _ 68 _ (0,0) _ rfl (Aj _ _ _) underlying68 rfl za) rfl ⟨rfl,((Ab _ _).alloc (Aa _) _).alloc (by simp) _⟩
theorem zbY(pc next v:Int)(rd:Nat)(hz:((rd:Int) != 0)=true)(w:World):
  Calls prog 129 #[cv pc next 0 0 0 0 0 0 0 false 0,.int .i64 rd,.int .u32 v] w fun e w'=>e=.returned (cv pc next 0 0 rd v 0 0 0 false 0)/\Below w.heap.size w w':=by
 go_enter func129,ntmps129
 go_wp2
 exact Ae (v:=cv pc next 0 0 rd v 0 0 0 false 0) (Ac results129 _ _ _ 68 _ (0,0) _ rfl (Aj _ _ _) underlying68 rfl za) rfl ⟨rfl,((Ab _ _).alloc (Aa _) _).alloc (by simp) _⟩
def itab:List Int:=[0,0,0,0,0,0,0,0,0,0,0,0,0,0,0,0,0,0,0,28,31,32,33,36,37,30,34,35,0,0,0,0,0,0,0,0,0,0,0,0,0,0,0,0,0,0,0,0,0]
def Tab2(w:World):Prop:=∀i,i<49->w.cell? ⟨2,i,none⟩=some (.int .i64 (itab.getD i 0))
theorem Tab2.size{w:World}(h:Tab2 w):2<w.heap.size:=Am _ _ (h 0 (by omega))
theorem Tab2.below{w w':World}{B:Nat}(h:Tab2 w)(hb:Below B w w')(hB:2<B):Tab2 w':=
 fun i hi=>(hb.cell (p:=⟨2,i,none⟩) hB).trans (h i hi)
theorem zln(a:Int)(a0:0<=a)(a1:a<=4294967295):bits .andNot .u32 a 1=a-a%2:=by
 rw[u32_andNot a 1 a0 (by omega) (by omega) (by omega)]
 rw[show(4294967295-(1:Int).toNat)=4294967294 from rfl,and_even _ (by omega)]
 omega
abbrev wd(I:Int):Int:=I%4294967296
theorem zgZ(rd s1 s2 I pc A B:Int)(p0:0<=pc)(p1:pc<=4294967295)(w:World):
  Calls prog 133 #[iv 3 rd s1 s2 I,.int .u32 pc,.int .u32 A,.int .u32 B] w fun e w'=>e=.returned (.int .u32 ((pc+wd I)%4294967296))/\Below w.heap.size w w':=by
 go_enter func133,ntmps133
 go_wp2
 go_ret
 exact⟨rfl,(Ab _ _).alloc (Aa _) _⟩
theorem zjc(op rd s1 s2 I pc A B:Int)(p0:0<=pc)(p1:pc<=4294967295)(hq:(op==3)=false)
  (q:∀W,Calls prog 167 #[.int .i64 op,.int .u32 A,.int .u32 B] W fun e w'=>e=.returned (.bool true)/\w'=W) (w:World):
  Calls prog 133 #[iv op rd s1 s2 I,.int .u32 pc,.int .u32 A,.int .u32 B] w fun e w'=>e=.returned (.int .u32 ((pc+wd I)%4294967296))/\Below w.heap.size w w':=by
 go_enter func133,ntmps133
 go_wp2_with fail
 refine(q _).mono ?_
 rintro e w' ⟨rfl,rfl⟩
 go_wp2
 go_ret
 exact⟨rfl,(Ab _ _).alloc (Aa _) _⟩
theorem zjd(op rd s1 s2 I pc A B:Int)(p0:0<=pc)(p1:pc<=4294967295)(hq:(op==3)=false)(hr:(op==4)=false)
  (q:∀W,Calls prog 167 #[.int .i64 op,.int .u32 A,.int .u32 B] W fun e w'=>e=.returned (.bool false)/\w'=W) (w:World):
  Calls prog 133 #[iv op rd s1 s2 I,.int .u32 pc,.int .u32 A,.int .u32 B] w fun e w'=>e=.returned (.int .u32 ((pc+4)%4294967296))/\Below w.heap.size w w':=by
 go_enter func133,ntmps133
 go_wp2_with fail
 refine(q _).mono ?_
 rintro e w' ⟨rfl,rfl⟩
 go_wp2
 go_ret
 exact⟨rfl,(Ab _ _).alloc (Aa _) _⟩
theorem zfa(rd s1 s2 I pc A B:Int)(p0:0<=pc)(p1:pc<=4294967295)(a0:0<=A)(a1:A<=4294967295)
  (q:∀W,Calls prog 167 #[.int .i64 4,.int .u32 A,.int .u32 B] W fun e w'=>e=.returned (.bool false)/\w'=W) (w:World):
  Calls prog 133 #[iv 4 rd s1 s2 I,.int .u32 pc,.int .u32 A,.int .u32 B] w fun e w'=>e=.returned (.int .u32 ((A+wd I)%4294967296-(A+wd I)%4294967296%2))/\Below w.heap.size w w':=by
 have hb:=zln ((A+wd I)%4294967296) (by omega) (by omega)
 go_enter func133,ntmps133
 go_wp2_with fail
 refine(q _).mono ?_
 rintro e w' ⟨rfl,rfl⟩
 go_wp2
 go_ret
 exact⟨zX (by rw[show(A+I)%4294967296=(A+wd I)%4294967296 by unfold wd;omega];exact hb),(Ab _ _).alloc (Aa _) _⟩
theorem zcZ(rd s1 s2 I pc A B:Int)(w:World):
  Calls prog 134 #[iv 1 rd s1 s2 I,.int .u32 pc,.int .u32 A,.int .u32 B] w fun e w'=>e=.returned (.int .u32 (wd I))/\Below w.heap.size w w':=by
 go_enter func134,ntmps134
 go_wp2
 go_ret
 exact⟨rfl,(Ab _ _).alloc (Aa _) _⟩
theorem za6(rd s1 s2 I pc A B:Int)(p0:0<=pc)(p1:pc<=4294967295)(w:World):
  Calls prog 134 #[iv 2 rd s1 s2 I,.int .u32 pc,.int .u32 A,.int .u32 B] w fun e w'=>e=.returned (.int .u32 ((pc+wd I)%4294967296))/\Below w.heap.size w w':=by
 go_enter func134,ntmps134
 go_wp2
 go_ret
 exact⟨rfl,(Ab _ _).alloc (Aa _) _⟩
theorem zc0(rd s1 s2 I pc A B:Int)(p0:0<=pc)(p1:pc<=4294967295)(w:World):
  Calls prog 134 #[iv 3 rd s1 s2 I,.int .u32 pc,.int .u32 A,.int .u32 B] w fun e w'=>e=.returned (.int .u32 ((pc+4)%4294967296))/\Below w.heap.size w w':=by
 go_enter func134,ntmps134
 go_wp2
 go_ret
 exact⟨rfl,(Ab _ _).alloc (Aa _) _⟩
theorem zbZ(rd s1 s2 I pc A B:Int)(p0:0<=pc)(p1:pc<=4294967295)(w:World):
  Calls prog 134 #[iv 4 rd s1 s2 I,.int .u32 pc,.int .u32 A,.int .u32 B] w fun e w'=>e=.returned (.int .u32 ((pc+4)%4294967296))/\Below w.heap.size w w':=by
 go_enter func134,ntmps134
 go_wp2
 go_ret
 exact⟨rfl,(Ab _ _).alloc (Aa _) _⟩
theorem zc1(m:Nat)(rd s1 s2 I pc A B O V:Int)(m0:5<=m)(m1:m<49)(ht:itab.getD m 0=O)(hO:(O != 0)=true)
  (q:∀W,Calls prog 168 #[.int .i64 O,.int .u32 A,.int .u32 (wd I)] W fun e w'=>e=.returned (.int .u32 V)/\w'=W) (w:World) (hT:Tab2 w):
  Calls prog 134 #[iv m rd s1 s2 I,.int .u32 pc,.int .u32 A,.int .u32 B] w fun e w'=>e=.returned (.int .u32 V)/\Below w.heap.size w w':=by
 have k:=hT m m1
 rw[ht]at k
 have hs:=hT.size
 have n1:((m:Int)==1)=false:=beq_eq_false_iff_ne.2 (by omega)
 have n2:((m:Int)==2)=false:=beq_eq_false_iff_ne.2 (by omega)
 have n3:((m:Int)==3)=false:=beq_eq_false_iff_ne.2 (by omega)
 have n4:((m:Int)==4)=false:=beq_eq_false_iff_ne.2 (by omega)
 clear hT ht
 go_enter func134,ntmps134
 go_wp2_with fail
 refine(q _).mono ?_
 rintro e w' ⟨rfl,rfl⟩
 go_wp2
 go_ret
 exact⟨rfl,(Ab _ _).alloc (Aa _) _⟩
theorem zc2(m:Nat)(rd s1 s2 I pc A B V:Int)(m0:5<=m)(m1:m<49)(ht:itab.getD m 0=0)
  (q:∀W,Calls prog 168 #[.int .i64 m,.int .u32 A,.int .u32 B] W fun e w'=>e=.returned (.int .u32 V)/\w'=W) (w:World) (hT:Tab2 w):
  Calls prog 134 #[iv m rd s1 s2 I,.int .u32 pc,.int .u32 A,.int .u32 B] w fun e w'=>e=.returned (.int .u32 V)/\Below w.heap.size w w':=by
 have k:=hT m m1
 rw[ht]at k
 have hs:=hT.size
 have n1:((m:Int)==1)=false:=beq_eq_false_iff_ne.2 (by omega)
 have n2:((m:Int)==2)=false:=beq_eq_false_iff_ne.2 (by omega)
 have n3:((m:Int)==3)=false:=beq_eq_false_iff_ne.2 (by omega)
 have n4:((m:Int)==4)=false:=beq_eq_false_iff_ne.2 (by omega)
 clear hT ht
 go_enter func134,ntmps134
 go_wp2_with fail
 refine(q _).mono ?_
 rintro e w' ⟨rfl,rfl⟩
 go_wp2
 go_ret
 exact⟨rfl,(Ab _ _).alloc (Aa _) _⟩
end Go.Proofs.YtpiohehijkpghacGreatDoor
namespace Go.Proofs.YtpiohehijkpghacGreatDoor
open Go.RowKit
open Hy
theorem zje(x k:Nat):x&&& (255*2^k)=(x/2^k%256)*2^k:=by
 apply Nat.eq_of_testBit_eq
 intro i
 rw[Nat.mul_comm 255,Nat.mul_comm (x/2^k%256),Nat.testBit_and,An,An]
 by_cases h:k<=i
 ·simp only[h,decide_true,Bool.true_and]
  rw[show(255:Nat)=2^8-1 from rfl,Nat.testBit_two_pow_sub_one,show(256:Nat)=2^8 from rfl,Nat.testBit_mod_two_pow,Nat.testBit_div_two_pow,Nat.sub_add_cancel h,Bool.and_comm]
 ·simp[h]
theorem zfb(B P:Int)(k:Nat)(hk:k<=24)(hP:P=((2^k:Nat):Int))(b0:0<=B)(b1:B<=4294967295):bits .and .u32 B (255*P)=B/P%256*P:=by
 have hle:2^k<=2^24:=Ap (by omega) hk
 have hab:=zje B.toNat k
 generalize 2^k=q at hle hP hab
 subst hP
 rw[u32_and _ _ b0 (by omega) (by omega) (by omega),show(255*(q:Int)).toNat=255*q by omega,hab]
 obtain⟨x,rfl⟩:=Int.eq_ofNat_of_zero_le b0
 simp
theorem yF(B T P Q:Int)(k:Nat)(hk:k<=24)(hP:P=((2^k:Nat):Int))(hQ:Q=P*256)(b0:0<=B)(b1:B<=4294967295)(hT:T=B%P):
  bits .or .u32 T (bits .and .u32 B (255*P))=B%Q:=by
 have hle:2^k<=2^24:=Ap (by omega) hk
 have hp:0<2^k:=Nat.pos_of_ne_zero (by simp)
 have hP0:0<P:=by omega
 have t0:0<=T:=by rw[hT];exact Int.emod_nonneg _ (by omega)
 have t1:T<P:=by rw[hT];exact Int.emod_lt_of_pos _ hP0
 rw[zfb B P k hk hP b0 b1]
 have d0:0<=B/P%256:=by omega
 have d1:B/P%256<=255:=by omega
 have dm:B/P%256*P<=255*P:=Int.mul_le_mul_of_nonneg_right d1 (by omega)
 have dn:0<=B/P%256*P:=Int.mul_nonneg d0 (by omega)
 rw[zbA k P T _ hP (by omega) t0 t1 dn (by omega) (Int.mul_emod_left _ _),hT,hQ]
 have e1:=Int.emod_def B (P*256)
 have e2:=Int.emod_def B P
 have e3:=Int.emod_def (B/P) 256
 have e4:B/(P*256)=B/P/256:=(Int.ediv_ediv_of_nonneg (by omega)).symm
 rw[e1,e2,e3,e4,Int.sub_mul,Int.mul_assoc P 256,Int.mul_comm (256*(B/P/256)) P,Int.mul_comm (B/P) P]
 omega
theorem kV(B:Int)(m:Nat)(hm:m=1\/m=2\/m=4)(b0:0<=B)(b1:B<=4294967295)(w:World):
  Calls prog 166 #[.int .u32 B,.int .u32 m] w fun e w'=>e=.returned (.int .u32 (B%p256 m))/\w'=w:=by
 go_enter func166,ntmps166
 go_wp2
 go_loop [5,6,8] (fun t i k=>∃j:Nat,j<=m/\k=.int .u32 j/\t=.int .u32 (B%p256 j)) (fun _ _ k=>m-(intOf k).toNat)
 case atStart=>exact⟨0,by omega,rfl,int_eq (by rw[show p256 0=1 from rfl];omega)⟩
 case round=>
  obtain⟨j,hj,rfl,rfl⟩:=hrel
  obtain⟨T,hT⟩:∃T,T=B%p256 j:=⟨_,rfl⟩
  have HT:Hid (T=B%p256 j):=hT
  rw[<-hT]
  clear hT
  by_cases hlt:j<m
  ·rcases(by omega:j=0\/j=1\/j=2\/j=3)with rfl|rfl|rfl|rfl
   ·go_wp2
    go_round
    case rel=>exact⟨1,by omega,by go_num,int_eq (yF B T 1 256 0 (by omega) rfl rfl b0 b1 HT.out)⟩
    case measure=>simp[intOf];omega
   ·go_wp2
    go_round
    case rel=>exact⟨2,by omega,by go_num,int_eq (yF B T 256 65536 8 (by omega) rfl rfl b0 b1 HT.out)⟩
    case measure=>simp[intOf];omega
   ·go_wp2
    go_round
    case rel=>exact⟨3,by omega,by go_num,int_eq (yF B T 65536 16777216 16 (by omega) rfl rfl b0 b1 HT.out)⟩
    case measure=>simp[intOf];omega
   ·go_wp2
    go_round
    case rel=>exact⟨4,by omega,by go_num,int_eq (yF B T 16777216 4294967296 24 (by omega) rfl rfl b0 b1 HT.out)⟩
    case measure=>simp[intOf];omega
  ·obtain rfl:j=m:=by omega
   go_wp2
   go_ret
   exact⟨congrArg Ending.returned (int_eq HT.out),rfl⟩
theorem jg(op rd s1 s2 I pc V:Int)(w:World):
  Calls prog 88 #[iv op rd s1 s2 I,.int .u32 pc,.int .u32 V,.bool false] w fun e w'=>e=.returned (cv pc pc 2 3 0 0 0 0 0 false 0)/\Below w.heap.size w w':=by
 go_enter func88,ntmps88
 go_wp2_with fail
 refine(jo pc 3 _).mono ?_
 rintro e w2 ⟨rfl,hk⟩
 have hs:=hk.size
 simp at hs
 have hr:=(hk.block (w.heap.size+1) (by simp)).trans (Aj _ _ _)
 go_wp2_with(refine Ah rfl 68 _ _ rfl _ _ rfl rfl 68 _ hr za rfl (qq _ _ _ _ _ _ _ _ _ _ _) ?_)
 exact Ae (v:=cv pc pc 2 3 0 0 0 0 0 false 0) (Ac results88 _ _ _ 68 _ (0,0) _ rfl (Ai _ _ _ _ _ _ hr) underlying68 rfl za) rfl ⟨rfl,zc ((((Ab _ _).alloc (Aa _) _).alloc (by simp) _).trans (hk.mono (by simp;omega))) (by simp) _⟩
theorem zg{N:Nat}{W w2:World}(hk:Below W.drew.heap.size W.drew w2)(h:N<=W.heap.size):Below N W w2:=((Ab _ W).drew).trans (hk.mono h)
theorem xw{N:Nat}{W w2 w3:World}(h2:Below N W w2)(hk:Below w2.heap.size w2 w3)(h:N<=W.heap.size):Below N W w3:=h2.trans (hk.mono (Av h h2.size))
theorem zN{N:Nat}{W w2:World}{b:Nat}{o:Obj}(h2:Below N W w2)(hb:b<N)(h:W.heap[b]?=some o):w2.heap[b]?=some o:=(h2.block b hb).trans h
theorem jV{N:Nat}{W w2:World}{b j:Nat}{v:Value}(h2:Below N W w2)(hb:b<N)(h:W.cell? ⟨b,j,none⟩=some v):w2.cell? ⟨b,j,none⟩=some v:=(h2.cell (p:=⟨b,j,none⟩) hb).trans h
theorem qx(op I pc V NX:Int)(rd s1 s2:Nat)(w:World)
  (CN:∀W,Calls prog 130 #[.int .u32 pc] W fun e w'=>e=.returned (cv pc NX 0 0 0 0 0 0 0 false 0)/\Below W.heap.size W w')
  (r v:Int) (CG:∀W,Calls prog 129 #[cv pc NX 0 0 0 0 0 0 0 false 0,.int .i64 rd,.int .u32 V] W fun e w'=>e=.returned (cv pc NX 0 0 r v 0 0 0 false 0)/\Below W.heap.size W w'):
  Calls prog 88 #[iv op rd s1 s2 I,.int .u32 pc,.int .u32 V,.bool true] w fun e w'=>e=.returned (cv pc NX 0 0 r v 0 0 0 false 0)/\Below w.heap.size w w':=by
 go_enter func88,ntmps88
 go_wp2_with fail
 obtain⟨W,hW⟩:∃W:World,W=(w.alloc (.cells #[.int .i64 op,.int .i64 rd,.int .i64 s1,.int .i64 s2,.int .i32 I] 78)).alloc (.cells (ccs 0 0 0 0 0 0 0 0 0 false 0) 68):=⟨_,rfl⟩
 have r24:W.heap[w.heap.size]?=some (.cells #[.int .i64 op,.int .i64 rd,.int .i64 s1,.int .i64 s2,.int .i32 I] 78 (0,0)):=by rw[hW];exact At _ _ _
 have r38:W.heap[w.heap.size+1]?=some (.cells (ccs 0 0 0 0 0 0 0 0 0 false 0) 68 (0,0)):=by rw[hW];exact Aj _ _ _
 have hsz:w.heap.size+2<=W.heap.size:=by rw[hW];simp
 have hb:Below w.heap.size w W:=by rw[hW];exact((Ab _ _).alloc (Aa _) _).alloc (by simp) _
 have y1:=(cell_of_row W w.heap.size 1 _ _ _ r24).trans rfl
 have R38:Hid (W.heap[w.heap.size+1]?=some (.cells (ccs 0 0 0 0 0 0 0 0 0 false 0) 68 (0,0))):=r38
 rw[<-hW]
 clear hW r24 r38
 have hl:w.heap.size+1<w.heap.size+2:=by omega
 have hl0:w.heap.size<w.heap.size+2:=by omega
 refine wp_region_held_drew (S:=fun w'=>Below (w.heap.size+1) W w') (by kernel_rfl) ((Ab _ _).drew) (fun hH=>?_)
 refine Co.tI 0 (.int .u32 pc) ?_
 try simp only[Ao,Ad,Af,Ag]
 refine Co.tI 2 (.pointer (some ⟨w.heap.size,1,none⟩)) ?_
 try simp only[Ao,Ad,Af,Ag]
 refine Co.tH 3 (.int .i64 rd) rfl (Or.inl ⟨by rfl,by intro w hSw;have hc:=jV hSw (Nat.lt_succ_self _) y1;go_simp⟩) hH ?_
 try simp only[Ao,Ad,Af,Ag]
 refine Co.tI 4 (.int .u32 V) ?_
 try simp only[Ao,Ad,Af,Ag]
 refine As (rs:=[1]) (by kernel_rfl) (by simp) ?_
 refine Aq rfl (fun K hK=>?_) Ar
 go_simp
 refine(CN _).mono ?_
 rintro e w2 ⟨rfl,hk⟩
 have hB2:Below (w.heap.size+2) W w2:=zg hk hsz
 go_wp2_with fail
 refine hK.out _ _ (hB2.mono (by omega)) (fun hH=>?_)
 clear hK K
 try simp only[Ao,Ad,Af,Ag]
 refine As (rs:=[5]) (by kernel_rfl) (by simp) ?_
 refine Aq rfl (fun K hK=>?_) Ar
 go_simp
 refine(CG _).mono ?_
 rintro e w3 ⟨rfl,hk3⟩
 have hB3:Below (w.heap.size+2) W w3:=xw hB2 hk3 hsz
 go_wp2_with fail
 refine hK.out _ _ (hB3.mono (by omega)) (fun hH=>?_)
 clear hK K
 try simp only[Ao,Ad,Af,Ag]
 refine As (rs:=[6]) (by kernel_rfl) (by simp) ?_
 refine Aq rfl (fun K hK=>?_) Ar
 rw[if_pos (by rfl)]
 refine wp_store_row 68 _ _ rfl _ _ rfl rfl 68 _ (zN hB3 hl R38.out) za rfl (qq _ _ _ _ _ _ _ _ _ _ _) ?_
 refine hK.out _ _ (zc (hB3.mono (by omega)) (Aa _) _) (fun hH=>?_)
 clear hK K
 try simp only[Ao,Ad,Af,Ag]
 refine wpAnyH_done (by kernel_rfl) ?_ _
 go_wp2_with fail
 exact Ae (v:=cv pc NX 0 0 r v 0 0 0 false 0) (Ac results88 _ _ _ 68 _ (0,0) _ rfl (Ai _ _ _ _ _ _ (zN hB3 hl R38.out)) underlying68 rfl za) rfl ⟨rfl,zc (hb.trans (hB3.mono (by omega))) (by omega) _⟩
theorem vu(op rd s1 s2 I pc A B:Int)(p:Option Addr)(n c:Nat)(a0:0<=A)(a1:A<=4294967295)(w:World)
  (CM:∀W,Calls prog 111 #[.slice p n c,.int .i64 op,.int .u32 ((A+I)%4294967296)] W fun e w'=>e=.returned (.int .u32 0)/\w'=W):
  Calls prog 131 #[iv op rd s1 s2 I,.int .u32 pc,.int .u32 A,.int .u32 B,.slice p n c] w fun e w'=>e=.returned (cv pc pc 2 4 0 0 0 0 0 false 0)/\Below w.heap.size w w':=by
 go_enter func131,ntmps131
 go_wp2_with fail
 refine(CM _).mono ?_
 rintro e w' ⟨rfl,rfl⟩
 go_wp2_with fail
 refine(jo pc 4 _).mono ?_
 rintro e w2 ⟨rfl,hk⟩
 have hs:=hk.size
 simp at hs
 have hr:=(hk.block (w.heap.size+1) (by simp)).trans (Aj _ _ _)
 go_wp2_with(refine Ah rfl 68 _ _ rfl _ _ rfl rfl 68 _ hr za rfl (qq _ _ _ _ _ _ _ _ _ _ _) ?_)
 exact Ae (v:=cv pc pc 2 4 0 0 0 0 0 false 0) (Ac results131 _ _ _ 68 _ (0,0) _ rfl (Ai _ _ _ _ _ _ hr) underlying68 rfl za) rfl ⟨rfl,zc ((((Ab _ _).alloc (Aa _) _).alloc (by simp) _).trans (hk.mono (by simp;omega))) (by simp) _⟩
theorem kW(op rd s1 s2 I pc A B NX L:Int)(m:Nat)(hm:m=1\/m=2\/m=4)(p:Option Addr)(n c:Nat)(a0:0<=A)(a1:A<=4294967295)(w:World)
  (CM:∀W,Calls prog 111 #[.slice p n c,.int .i64 op,.int .u32 ((A+I)%4294967296)] W fun e w'=>e=.returned (.int .u32 m)/\w'=W)
  (CN:∀W,Calls prog 130 #[.int .u32 pc] W fun e w'=>e=.returned (cv pc NX 0 0 0 0 0 0 0 false 0)/\Below W.heap.size W w')
  (CW:∀W,Calls prog 166 #[.int .u32 B,.int .u32 m] W fun e w'=>e=.returned (.int .u32 L)/\w'=W):
  Calls prog 131 #[iv op rd s1 s2 I,.int .u32 pc,.int .u32 A,.int .u32 B,.slice p n c] w fun e w'=>e=.returned (cv pc NX 0 0 0 0 ((A+I)%4294967296) m L false 0)/\Below w.heap.size w w':=by
 have hz:((m:Int)==0)=false:=beq_eq_false_iff_ne.2 (by omega)
 have hm1:(m:Int)<=4:=by omega
 go_enter func131,ntmps131
 go_wp2_with fail
 refine(CM _).mono ?_
 rintro e w' ⟨rfl,rfl⟩
 go_wp2_with fail
 refine(CN _).mono ?_
 rintro e w2 ⟨rfl,hk⟩
 have hs:=hk.size
 simp at hs
 have hr:=(hk.block (w.heap.size+1) (by simp)).trans (Aj _ _ _)
 have hb:Below w.heap.size w w2:=(((Ab _ _).alloc (Aa _) _).alloc (by simp) _).trans (hk.mono (by simp;omega))
 have HR:Hid (w2.heap[w.heap.size+1]?=some (.cells (ccs 0 0 0 0 0 0 0 0 0 false 0) 68 (0,0))):=hr
 have hs':w.heap.size+1<w2.heap.size:=by omega
 clear hr hk
 go_wp2_with fail
 refine(CW _).mono ?_
 rintro e w' ⟨rfl,rfl⟩
 go_wp2_with(first|(refine Al rfl 68 _ rfl _ rfl 68 _ (0,0) _ (heap_alloc_new _ _) underlying68 rfl za ?_)|(refine Ah rfl 68 _ _ rfl _ _ rfl rfl 68 (ccs 0 0 0 0 0 0 0 0 0 false 0) ((Ak _ _ _ hs').trans HR.out) za rfl (qq _ _ _ _ _ _ _ _ _ _ _) ?_))
 exact Ae (v:=cv pc NX 0 0 0 0 ((A+I)%4294967296) m L false 0) (Ac results131 _ _ _ 68 _ (0,0) _ rfl (Ai _ _ _ _ _ _ ((Ak _ _ _ hs').trans HR.out)) underlying68 rfl za) rfl ⟨rfl,zc (hb.alloc (by omega) _) (by omega) _⟩
theorem zlo(pc T10 NX:Int)(w:World)
  (CN:∀W,Calls prog 130 #[.int .u32 pc] W fun e w'=>e=.returned (cv pc NX 0 0 0 0 0 0 0 false 0)/\Below W.heap.size W w'):
  Calls prog 132 #[.int .u32 pc,.int .u32 1,.int .u32 T10] w fun e w'=>e=.returned (cv pc NX 0 0 0 0 0 0 0 true T10)/\Below w.heap.size w w':=by
 go_enter func132,ntmps132
 go_wp2_with fail
 refine(CN _).mono ?_
 rintro e w2 ⟨rfl,hk⟩
 have hs:=hk.size
 simp at hs
 have hr:=(hk.block w.heap.size (by simp)).trans (heap_alloc_new _ _)
 have hb:Below w.heap.size w w2:=((Ab _ _).alloc (Aa _) _).trans (hk.mono (by simp))
 have HR:Hid (w2.heap[w.heap.size]?=some (.cells (ccs 0 0 0 0 0 0 0 0 0 false 0) 68 (0,0))):=hr
 have hs':w.heap.size<w2.heap.size:=by omega
 clear hr hk
 go_wp2_with(first|(refine Al rfl 68 _ rfl _ rfl 68 _ (0,0) _ (heap_alloc_new _ _) underlying68 rfl za ?_)|(refine Ah rfl 68 _ _ rfl _ _ rfl rfl 68 (ccs 0 0 0 0 0 0 0 0 0 false 0) ((Ak _ _ _ hs').trans HR.out) za rfl (qq _ _ _ _ _ _ _ _ _ _ _) ?_))
 exact Ae (v:=cv pc NX 0 0 0 0 0 0 0 true T10) (Ac results132 _ _ _ 68 _ (0,0) _ rfl (Ai _ _ _ _ _ _ ((Ak _ _ _ hs').trans HR.out)) underlying68 rfl za) rfl ⟨rfl,zc (hb.alloc (by omega) _) (by omega) _⟩
theorem zlp(pc B:Int)(w:World):
  Calls prog 132 #[.int .u32 pc,.int .u32 0,.int .u32 B] w fun e w'=>e=.returned (cv pc pc 1 0 0 0 0 0 0 false 0)/\Below w.heap.size w w':=by
 go_enter func132,ntmps132
 go_wp2_with fail
 exact Ae (v:=cv pc pc 1 0 0 0 0 0 0 false 0) (Ac results132 _ _ _ 68 _ (0,0) _ rfl (heap_alloc_new _ _) underlying68 rfl za) rfl ⟨rfl,(Ab _ _).alloc (Aa _) _⟩
theorem zlq(pc T17 B:Int)(n0:(T17==0)=false)(n1:(T17==1)=false)(w:World):
  Calls prog 132 #[.int .u32 pc,.int .u32 T17,.int .u32 B] w fun e w'=>e=.returned (cv pc pc 2 5 0 0 0 0 0 false 0)/\Below w.heap.size w w':=by
 go_enter func132,ntmps132
 go_wp2_with fail
 refine(jo pc 5 _).mono ?_
 rintro e w2 ⟨rfl,hk⟩
 have hs:=hk.size
 simp at hs
 have hr:=(hk.block w.heap.size (by simp)).trans (heap_alloc_new _ _)
 go_wp2_with(refine Ah rfl 68 _ _ rfl _ _ rfl rfl 68 _ hr za rfl (qq _ _ _ _ _ _ _ _ _ _ _) ?_)
 exact Ae (v:=cv pc pc 2 5 0 0 0 0 0 false 0) (Ac results132 _ _ _ 68 _ (0,0) _ rfl (Ai _ _ _ _ _ _ hr) underlying68 rfl za) rfl ⟨rfl,zc (((Ab _ _).alloc (Aa _) _).trans (hk.mono (by simp))) (by simp) _⟩
end Go.Proofs.YtpiohehijkpghacGreatDoor
namespace Go.Proofs.YtpiohehijkpghacGreatDoor
open Go.RowKit
open Hy
theorem Lies.below{w w':World}{g o n:Nat}{f:Nat->Int}(h:Lies w g o n f)(hb:Below w.heap.size w w'):Lies w' g o n f:=fun i hi=>by
 have hlt:=Am _ _ (h i hi)
 rw[hb.cell hlt]
 exact h i hi
theorem Lies.part{w:World}{g o n:Nat}{f:Nat->Int}(h:Lies w g o n f)(a m:Nat)(ham:a+m<=n):Lies w g (o+a) m (fun i=>f (a+i)):=fun i hi=>by
 rw[Nat.add_assoc]
 exact h (a+i) (by omega)
end Go.Proofs.YtpiohehijkpghacGreatDoor
namespace Go.Proofs.YtpiohehijkpghacGreatDoor
open Go.RowKit
open Hy
theorem vw(w:World)(A B C:Obj):(((w.alloc A).alloc B).alloc C).drew.heap[w.heap.size]?=some A:=
 (Ak _ _ _ (by simp;omega)).trans (At _ _ _)
theorem xd(w:World)(A B C:Obj):(((w.alloc A).alloc B).alloc C).drew.heap[w.heap.size+1+1]?=some C:=by
 have h:=heap_alloc_new ((w.alloc A).alloc B) C
 rw[show((w.alloc A).alloc B).heap.size=w.heap.size+1+1 by simp]at h
 exact h
theorem zb0(H:Array Value)(pc next st ca v at_ many data told:Int)(out:Bool)(hH:H.size=35)(hO:Ones H)(h32:∃z,H[32]?=some (.int .u32 z))(h33:∃z,H[33]?=some (.int .i64 z))(h34:∃z,H[34]?=some (.int .i64 z))(w:World):
  Calls prog 66 #[.agg H,cv pc next st ca 0 v at_ many data out told] w fun e w'=>e=.returned (.agg (((H.setIfInBounds 32 (.int .u32 next)).setIfInBounds 33 (.int .i64 st)).setIfInBounds 34 (.int .i64 ca)))/\Below w.heap.size w w':=by
 obtain⟨z2,h32⟩:=h32
 obtain⟨z3,h33⟩:=h33
 obtain⟨z4,h34⟩:=h34
 have HI:Hid ((prog.info? 27).map (·.size)=some (((H.setIfInBounds 32 (.int .u32 next)).setIfInBounds 33 (.int .i64 st)).setIfInBounds 34 (.int .i64 ca)).size):=by show _=_;rw[zp];simp[hH]
 have HZ:Hid (35=(((H.setIfInBounds 32 (.int .u32 next)).setIfInBounds 33 (.int .i64 st)).setIfInBounds 34 (.int .i64 ca)).size):=by show _=_;simp[hH]
 have HN:Hid (Ones (((H.setIfInBounds 32 (.int .u32 next)).setIfInBounds 33 (.int .i64 st)).setIfInBounds 34 (.int .i64 ca))):=by
  show Ones _
  repeat refine Ones.set ?_ _ _ (by simp[Au])
  exact hO
 clear hH hO
 go_enter func66,ntmps66
 go_wp2_with fail
 go_region
 go_upto_region 4 with fail
 go_wp2_with(first|(refine Al rfl 27 _ rfl _ rfl 27 _ (0,0) _ (vw _ _ _ _) underlying27 rfl HI.out ?_)|(refine Ah rfl 27 _ _ rfl _ _ rfl rfl 27 _ (xd _ _ _ _) HI.out HZ.out HN.out ?_))
 exact Ae (v:=.agg (((H.setIfInBounds 32 (.int .u32 next)).setIfInBounds 33 (.int .i64 st)).setIfInBounds 34 (.int .i64 ca))) (Ac results66 _ _ _ 27 _ (0,0) _ rfl (Ai _ _ _ _ _ _ (xd _ _ _ _)) underlying27 rfl HI.out) rfl ⟨rfl,zc (((((Ab _ _).alloc (Aa _) _).alloc (by simp) _).alloc (by simp;omega) _).drew) (by omega) _⟩
theorem zb1(H:Array Value)(pc next st ca v at_ many data told:Int)(rd:Nat)(R0:Int)(out:Bool)(hH:H.size=35)(hO:Ones H)(h32:∃z,H[32]?=some (.int .u32 z))(h33:∃z,H[33]?=some (.int .i64 z))(h34:∃z,H[34]?=some (.int .i64 z))(hR:H[rd]?=some (.int .u32 R0))(lr:rd<32)(hz:((rd:Int) != 0)=true)(w:World):
  Calls prog 66 #[.agg H,cv pc next st ca rd v at_ many data out told] w fun e w'=>e=.returned (.agg ((((H.setIfInBounds 32 (.int .u32 next)).setIfInBounds 33 (.int .i64 st)).setIfInBounds 34 (.int .i64 ca)).setIfInBounds rd (.int .u32 v)))/\Below w.heap.size w w':=by
 obtain⟨z2,h32⟩:=h32
 obtain⟨z3,h33⟩:=h33
 obtain⟨z4,h34⟩:=h34
 have HI:Hid ((prog.info? 27).map (·.size)=some ((((H.setIfInBounds 32 (.int .u32 next)).setIfInBounds 33 (.int .i64 st)).setIfInBounds 34 (.int .i64 ca)).setIfInBounds rd (.int .u32 v)).size):=by show _=_;rw[zp];simp[hH]
 have HZ:Hid (35=((((H.setIfInBounds 32 (.int .u32 next)).setIfInBounds 33 (.int .i64 st)).setIfInBounds 34 (.int .i64 ca)).setIfInBounds rd (.int .u32 v)).size):=by show _=_;simp[hH]
 have HN:Hid (Ones ((((H.setIfInBounds 32 (.int .u32 next)).setIfInBounds 33 (.int .i64 st)).setIfInBounds 34 (.int .i64 ca)).setIfInBounds rd (.int .u32 v))):=by
  show Ones _
  repeat refine Ones.set ?_ _ _ (by simp[Au])
  exact hO
 clear hH hO
 have hz1:0<rd:=by simp at hz;omega
 have e32:¬32=rd:=by omega
 have e33:¬33=rd:=by omega
 have e34:¬34=rd:=by omega
 have f32:¬rd=32:=by omega
 have f33:¬rd=33:=by omega
 have f34:¬rd=34:=by omega
 go_enter func66,ntmps66
 go_wp2_with fail
 go_region
 go_upto_region 4 with fail
 go_wp2_with(first|(refine Al rfl 27 _ rfl _ rfl 27 _ (0,0) _ (vw _ _ _ _) underlying27 rfl HI.out ?_)|(refine Ah rfl 27 _ _ rfl _ _ rfl rfl 27 _ (xd _ _ _ _) HI.out HZ.out HN.out ?_))
 exact Ae (v:=.agg ((((H.setIfInBounds 32 (.int .u32 next)).setIfInBounds 33 (.int .i64 st)).setIfInBounds 34 (.int .i64 ca)).setIfInBounds rd (.int .u32 v))) (Ac results66 _ _ _ 27 _ (0,0) _ rfl (Ai _ _ _ _ _ _ (xd _ _ _ _)) underlying27 rfl HI.out) rfl ⟨rfl,zc (((((Ab _ _).alloc (Aa _) _).alloc (by simp) _).alloc (by simp;omega) _).drew) (by omega) _⟩
def Mem(w:World)(p:Option Addr)(n:Nat)(f:Nat->Int):Prop:=0<n->∃g o,p=some ⟨g,o,none⟩/\Lies w g o n f
theorem Mem.below{w w':World}{p:Option Addr}{n:Nat}{f:Nat->Int}(h:Mem w p n f)(hb:Below w.heap.size w w'):Mem w' p n f:=fun h0=>by
 obtain⟨g,o,rfl,hl⟩:=h h0
 exact⟨g,o,rfl,hl.below hb⟩
end Go.Proofs.YtpiohehijkpghacGreatDoor
namespace Go.Proofs.YtpiohehijkpghacGreatDoor
open Go.RowKit
open Hy
def pv(cs:Array Value)(j:Nat):Int:=match cs[j]? with
 |some (.int .u32 v)=>v
 |_=>0
def chk(cs:Array Value):Nat->Bool
 |0=>true
 |n+1=>(match cs[n]? with
  |some (.int .u32 _)=>true
  |_=>false)&&chk cs n
theorem zkl(cs:Array Value):∀n,chk cs n=true->∀j,j<n->cs[j]?=some (.int .u32 (pv cs j))
 |0,_,j,h=>by omega
 |n+1,hk,j,h=>by
  simp only[chk,Bool.and_eq_true]at hk
  by_cases e:j=n
  ·subst e
   have h1:=hk.1
   unfold pv
   split at h1
   ·rename_i v hv;rw[hv]
   ·cases h1
  ·exact zkl cs n hk.2 j (by omega)
theorem zfc{w w2:World}{o:Obj}(k:Below (w.alloc o).heap.size (w.alloc o) w2):Below w.heap.size w w2:=
 ((Ab _ _).alloc (Aa _) o).trans (k.mono (by simp))
theorem zjf(f:Int)(cs:Array Value)(n:Nat)(t:TypeId)(g:Nat)(w:World)(hg:g=w.heap.size)(hn:n<=3)(hk:chk cs n=true):
  Calls prog 68 #[.int .i64 f,.slice (some ⟨g,0,none⟩) n n] (w.alloc (.cells cs t)) fun e w'=>e=.returned (.agg #[.int .i64 f,.int .u32 (tb (pv cs) n)])/\Below w.heap.size w w':=by
 subst hg
 exact(ze9 n hn f _ (pv cs) _ (by simp) (by
  intro j hj
  rw[World.cell?_alloc_at _ _ _ _ rfl]
  exact zkl cs n hk j hj)).mono fun e w' ⟨he,hb⟩=>⟨he,zfc hb⟩
def zeros:List Value->Nat->List Value
 |l,0=>l
 |l,n+1=>.int .i64 0::.int .u32 0::zeros l n
def xH:Array Value:=(zeros [] 49).toArray
def kcells:Nat->List Value
 |0=>[]
 |n+1=>kcells n++[.int .i64 (kf n),.int .u32 (kb n)]
def kc:Array Value:=(kcells 49).toArray
theorem zg0{P:Program}{o:Oper}{a:Act}{K:Act->World->Prop}{Q:Exit->Act->World->Prop}{r:Result Next}(r':Result Next)(h:r=r')(k:o.upon P a K Q r'):o.upon P a K Q r:=h▸k
theorem znu:(prog.info? 107).map (·.size)=some kc.size:=by kernel_rfl
theorem zlr:kc.all (·.oneCell')=true:=by kernel_rfl
theorem zg1:xH.size=kc.size:=by kernel_rfl
theorem zls{w w':World}(hb:Below (w.heap.size+1) (w.alloc (.cells xH 107)) w'):
  (storeCells ⟨w.heap.size,0,none⟩ kc.toList).run prog w'=.ok () (w'.setRow w.heap.size kc):=by
 have hg:w'.heap[w.heap.size]?=some (.cells xH 107 (0,0)):=(hb.block _ (by omega)).trans (heap_alloc_last _ _)
 have:=run_storeCells_from (P:=prog) w.heap.size 107 kc.toList 0 xH w' hg (by rw[zg1];simp) (fun v hv=>(Array.all_eq_true_iff_forall_mem.1 zlr) v (by simpa using hv))
 rw[List.take_zero,List.nil_append,Array.toArray_toList]at this
 exact this
theorem znv{w w':World}(hb:Below (w.heap.size+1) (w.alloc (.cells xH 107)) w'):
  (loadVar 107 ⟨w.heap.size,0,none⟩).run prog (w'.setRow w.heap.size kc)=.ok (.agg kc) (w'.setRow w.heap.size kc):=by
 have hg:w'.heap[w.heap.size]?=some (.cells xH 107 (0,0)):=(hb.block _ (by omega)).trans (heap_alloc_last _ _)
 exact run_loadVar_row _ _ 107 107 kc (0,0) _ (Ai w' _ _ kc 107 (0,0) hg) underlying107 rfl znu
theorem zb2{w w':World}{o:Obj}{c:Array Value}(hb:Below (w.heap.size+1) (w.alloc o) w'):Below w.heap.size w (w'.setRow w.heap.size c):=by
 have h:=((Ab w.heap.size w).alloc (Aa _) o).trans (hb.mono (by omega))
 exact⟨h.os,h.tape,h.output,by simpa using h.size,fun k hk=>(setRow_other _ _ _ _ (by omega)).trans (h.block k hk)⟩
theorem zg2(w:World):Calls prog 37 #[] w fun e w'=>e=.returned (.agg kc)/\Below w.heap.size w w':=by
 have hb:Below (w.heap.size+1) (w.alloc (.cells xH 107)) (w.alloc (.cells xH 107)):=Ab _ _
 have hB:w.heap.size+1<=(w.alloc (.cells xH 107)).heap.size:=by simp
 go_enter func37,ntmps37
 go_wp2_with fail
 rw[show zeroCells107=xH from by kernel_rfl]
 go_wp2_with(go_at_call 68;refine(zjf _ _ _ _ _ _ ?_ ?_ ?_).mono ?_;(iterate 1 simp);(iterate 1 omega);(iterate 1 exact rfl);rintro e w' ⟨rfl,hk⟩;replace hb:=hb.trans (hk.mono hB);replace hB:=Av hB hk.size;clear hk)
 refine zg0 (.ok .skip (w'.setRow w.heap.size kc)) ?_ ?_
 ·refine Eq.trans (b:=((storeCells ⟨w.heap.size,0,none⟩ kc.toList).run prog w').andThen fun a w'=>Result.ok Next.skip w') (by kernel_rfl) ?_
  rw[zls hb]
  rfl
 rw[Oper.upon_skip]
 go_wp2_with fail
 refine Ae (v:=.agg kc) ?_ rfl ⟨rfl,zb2 hb⟩
 simp[results,results37,asAddr,Ao,znv hb]
end Go.Proofs.YtpiohehijkpghacGreatDoor
