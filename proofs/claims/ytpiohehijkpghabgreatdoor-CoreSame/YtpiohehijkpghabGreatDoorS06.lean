/- The document's Step of an instruction that gives a register a word: walked. -/
import Derived.Deep.Cut
import Derived.WalkSmall
import Derived.Test.YtpiohehijkpghabGreatDoorS03
import Derived.Test.YtpiohehijkpghabGreatDoorS05
set_option maxRecDepth 20000
set_option maxHeartbeats 8000000
set_option linter.unusedVariables false
open Go.Proofs.Tryz
namespace Go.Proofs.YtpiohehijkpghabGreatDoor
open Go.RowKit
open Hy
theorem or3{a b c P:Prop}(h:a\/b\/c)(f:a->P)(g:b->P)(k:c->P):P:=h.elim f fun h=>h.elim g k
theorem or4{a b c d P:Prop}(h:a\/b\/c\/d)(f:a->P)(g:b->P)(k:c->P)(l:d->P):P:=h.elim f fun h=>or3 h g k l
theorem or7{a b c d e i j P:Prop}(h:a\/b\/c\/d\/e\/i\/j)(f:a->P)(g:b->P)(k:c->P)(l:d->P)(m:e->P)(n:i->P)(o:j->P):P:=h.elim f fun h=>h.elim g fun h=>h.elim k fun h=>or4 h l m n o
structure QB(H:Array Value)(pc:Int)(p:Option Addr)(n c:Nat)(w:World)(X M I N NX TH A B R0 PN:Int)(rd s1 s2:Nat):Prop where
 hH:H.size=35
 hO:Ones H
 h32:H[32]?=some (.int .u32 pc)
 h33:H[33]?=some (.int .i64 0)
 h34:H[34]?=some (.int .i64 0)
 hA:H[s1]?=some (.int .u32 A)
 hB:H[s2]?=some (.int .u32 B)
 hR:H[rd]?=some (.int .u32 R0)
 l1:s1<32
 l2:s2<32
 lr:rd<32
 i0:-2147483648<=I
 i1:I<=2147483647
 t0:0<=TH
 t1:TH<=4294967295
 CL:∀W,Below w.heap.size w W->Calls prog 24 #[.slice p n c,.int .i64 13,.int .u32 pc] W fun e w'=>e=.returned (.tuple #[.int .u32 X,.bool true])/\w'=W
 CD:∀W,Calls prog 26 #[.int .u32 X] W fun e w'=>e=.returned (.tuple #[iv M rd s1 s2 I,.bool true])/\Below W.heap.size W w'
 CO:∀W,Calls prog 27 #[.int .i64 I] W fun e w'=>e=.returned (.int .u32 N)/\w'=W
 CN:∀W,Calls prog 28 #[.int .u32 pc,.int .u32 4] W fun e w'=>e=.returned (.int .u32 NX)/\w'=W
 CT:∀W,Calls prog 28 #[.int .u32 A,.int .u32 N] W fun e w'=>e=.returned (.int .u32 TH)/\w'=W
 CS:∀W,Calls prog 28 #[.int .u32 pc,.int .u32 N] W fun e w'=>e=.returned (.int .u32 PN)/\w'=W
def KG(p:Option Addr)(n c:Nat)(w:World)(M N NX TH A B PN v nx O:Int):Prop:=
  (M=1/\v=N/\nx=NX)\/(M=2/\v=PN/\nx=NX)\/(M=3/\v=NX/\nx=PN)\/(M=4/\v=NX/\nx=TH-TH%2)\/
   (11<=M/\M<=15/\nx=NX/\∀W,Below w.heap.size w W->Calls prog 24 #[.slice p n c,.int .i64 M,.int .u32 TH] W fun e w'=>e=.returned (.tuple #[.int .u32 v,.bool true])/\w'=W)\/
   (19<=M/\M<=27/\nx=NX/\(∀W,Calls prog 34 #[.int .i64 M] W fun e w'=>e=.returned (.int .i64 O)/\w'=W)/\(∀W,Calls prog 33 #[.int .i64 O,.int .u32 A,.int .u32 N] W fun e w'=>e=.returned (.int .u32 v)/\∃k,w'=W.drewN k))\/
   (28<=M/\M<=45/\nx=NX/\(∀W,Calls prog 33 #[.int .i64 M,.int .u32 A,.int .u32 B] W fun e w'=>e=.returned (.int .u32 v)/\∃k,w'=W.drewN k))
theorem zpL(H:Array Value)(pc:Int)(p:Option Addr)(n c:Nat)(w:World)(X M I N NX TH A B R0 PN:Int)(rd s1 s2:Nat)(v nx O:Int)(D:Array Value)(q:QB H pc p n c w X M I N NX TH A B R0 PN rd s1 s2)
  (K:KG p n c w M N NX TH A B PN v nx O)
  (hg:(((rd:Int) != 0)=false/\Hid (Did D (ccs pc nx 0 0 0 0 0 0 0 false 0) (H.setIfInBounds 32 (.int .u32 nx)) p n c))\/(((rd:Int) != 0)=true/\Hid (Did D (ccs pc nx 0 0 rd v 0 0 0 false 0) ((H.setIfInBounds rd (.int .u32 v)).setIfInBounds 32 (.int .u32 nx)) p n c))):
  Calls prog 14 #[.agg H,.slice p n c] w fun e w'=>e=.returned (.agg D)/\Below w.heap.size w w':=by
 obtain⟨hH,hO,h32,h33,h34,hA,hB,hR,l1,l2,lr,i0,i1,t0,t1,CL,CD,CO,CN,CT,CS⟩:=q
 have HH:Hid (H.size=35):=hH
 have HO:Hid (Ones H):=hO
 clear hH hO
 go_enter func14,ntmps14
 go_wp2_with fail
 refine(CL _ (((Below.refl _ _).alloc (Nat.le_refl _) _).alloc (by simp) _)).mono ?_
 rintro e w' ⟨rfl,rfl⟩
 go_wp2_with fail
 refine(CD _).mono ?_
 rintro e w2 ⟨rfl,hk⟩
 have hs2:=hk.size
 simp at hs2
 have hrow:w2.heap[w.heap.size]?=some (.cells H 27 (0,0)):=(hk.block _ (by simp;omega)).trans (heap_alloc2_old _ _ _)
 obtain⟨Z,hZ,hres⟩:∃Z:Array Value,Z.size=47/\w2.heap[w.heap.size+1]?=some (.cells Z 66 (0,0)):=⟨_,rfl,(hk.block _ (by simp)).trans (heap_alloc2_new _ _ _)⟩
 have HZS:Hid (Z.size=47):=hZ
 have hb0:Below w.heap.size w w2:=(((Below.refl _ _).alloc (Nat.le_refl _) _).alloc (by simp) _).trans (hk.mono (by simp;omega))
 have k32:=(cell_of_row w2 w.heap.size 32 _ _ _ hrow).trans h32
 have k33:=(cell_of_row w2 w.heap.size 33 _ _ _ hrow).trans h33
 have kA:=(cell_of_row w2 w.heap.size s1 _ _ _ hrow).trans hA
 have kB:=(cell_of_row w2 w.heap.size s2 _ _ _ hrow).trans hB
 have kR:=(cell_of_row w2 w.heap.size rd _ _ _ hrow).trans hR
 have kz:∀j,w2.frozen? ⟨w.heap.size,j,none⟩=false:=fun j=>frozen_of_row _ _ j _ _ hrow
 have HR:Hid (w2.heap[w.heap.size]?=some (.cells H 27 (0,0))):=hrow
 have HZ:Hid (w2.heap[w.heap.size+1]?=some (.cells Z 66 (0,0))):=hres
 have hs3:w.heap.size<w2.heap.size:=by omega
 have hs4:w.heap.size+1<w2.heap.size:=by omega
 clear hZ hk hrow hres hA hB hR h32 h33 h34 CL CD hs2
 go_wp2_with fail
 refine(CO _).mono ?_
 rintro e w' ⟨rfl,rfl⟩
 go_wp2_with fail
 refine(CN _).mono ?_
 rintro e w' ⟨rfl,rfl⟩
 go_wp2_with fail
 refine(CT _).mono ?_
 rintro e w' ⟨rfl,rfl⟩
 rcases hg with⟨hz,hD⟩|⟨hz,hD⟩
 ·refine or7 K (fun K=>?a0) (fun K=>?a1) (fun K=>?a2) (fun K=>?a3) (fun K=>?a4) (fun K=>?a5) (fun K=>?a6)
  case' a0=>
   obtain⟨rfl,rfl,rfl⟩:=K
  case' a1=>
   obtain⟨rfl,rfl,rfl⟩:=K
   clear t0 t1
   go_wp2_with fail
   refine(CS _).mono ?_
   rintro e w' ⟨rfl,rfl⟩
  case' a2=>
   obtain⟨rfl,rfl,rfl⟩:=K
   clear t0 t1
   go_wp2_with fail
   refine(CS _).mono ?_
   rintro e w' ⟨rfl,rfl⟩
  case' a3=>
   obtain⟨rfl,rfl,rfl⟩:=K
  case' a4=>
   obtain⟨M0,M1,rfl,CM⟩:=K
   have q1:(M==1)=false:=beq_eq_false_iff_ne.2 (by omega)
   have q2:(M==2)=false:=beq_eq_false_iff_ne.2 (by omega)
   have q3:(M==3)=false:=beq_eq_false_iff_ne.2 (by omega)
   have q4:(M==4)=false:=beq_eq_false_iff_ne.2 (by omega)
   have q47:(M==47)=false:=beq_eq_false_iff_ne.2 (by omega)
   have q48:(M==48)=false:=beq_eq_false_iff_ne.2 (by omega)
   have ge5:decide (5<=M)=true:=decide_eq_true (by omega)
   have le10:decide (M<=10)=false:=decide_eq_false (by omega)
   have ge11:decide (11<=M)=true:=decide_eq_true (by omega)
   have le15:decide (M<=15)=true:=decide_eq_true (by omega)
   have ge16:decide (16<=M)=false:=decide_eq_false (by omega)
   have le18:decide (M<=18)=true:=decide_eq_true (by omega)
   have ge19:decide (19<=M)=false:=decide_eq_false (by omega)
   have le27:decide (M<=27)=true:=decide_eq_true (by omega)
   have ge28:decide (28<=M)=false:=decide_eq_false (by omega)
   have le45:decide (M<=45)=true:=decide_eq_true (by omega)
   go_wp2_with fail
   refine(CM _ ((hb0.alloc (by omega) _).alloc (by simp;omega) _)).mono ?_
   rintro e w' ⟨rfl,rfl⟩
  case' a5=>
   obtain⟨M0,M1,rfl,CP,CA⟩:=K
   have q1:(M==1)=false:=beq_eq_false_iff_ne.2 (by omega)
   have q2:(M==2)=false:=beq_eq_false_iff_ne.2 (by omega)
   have q3:(M==3)=false:=beq_eq_false_iff_ne.2 (by omega)
   have q4:(M==4)=false:=beq_eq_false_iff_ne.2 (by omega)
   have q47:(M==47)=false:=beq_eq_false_iff_ne.2 (by omega)
   have q48:(M==48)=false:=beq_eq_false_iff_ne.2 (by omega)
   have ge5:decide (5<=M)=true:=decide_eq_true (by omega)
   have le10:decide (M<=10)=false:=decide_eq_false (by omega)
   have ge11:decide (11<=M)=true:=decide_eq_true (by omega)
   have le15:decide (M<=15)=false:=decide_eq_false (by omega)
   have ge16:decide (16<=M)=true:=decide_eq_true (by omega)
   have le18:decide (M<=18)=false:=decide_eq_false (by omega)
   have ge19:decide (19<=M)=true:=decide_eq_true (by omega)
   have le27:decide (M<=27)=true:=decide_eq_true (by omega)
   have ge28:decide (28<=M)=false:=decide_eq_false (by omega)
   have le45:decide (M<=45)=true:=decide_eq_true (by omega)
   go_wp2_with fail
   refine(CP _).mono ?_
   rintro e w' ⟨rfl,rfl⟩
   go_wp2_with fail
   refine(CA _).mono ?_
   rintro e w' ⟨rfl,nq,rfl⟩
   rw[qq,qq]
   obtain⟨w4,hw4⟩:∃w4,w4=w2.drewN nq:=⟨_,rfl⟩
   rw[<-hw4,show w2.heap.size=w4.heap.size by rw[hw4];rfl]
   replace k32:w4.cell? ⟨w.heap.size,32,none⟩=some (.int .u32 pc):=by subst hw4;exact k32
   replace k33:w4.cell? ⟨w.heap.size,33,none⟩=some (.int .i64 0):=by subst hw4;exact k33
   replace kR:w4.cell? ⟨w.heap.size,rd,none⟩=some (.int .u32 R0):=by subst hw4;exact kR
   replace kz:∀j,w4.frozen? ⟨w.heap.size,j,none⟩=false:=by subst hw4;exact kz
   replace HR:Hid (w4.heap[w.heap.size]?=some (.cells H 27 (0,0))):=by subst hw4;exact HR
   replace HZ:Hid (w4.heap[w.heap.size+1]?=some (.cells Z 66 (0,0))):=by subst hw4;exact HZ
   replace hs3:w.heap.size<w4.heap.size:=by subst hw4;exact hs3
   replace hs4:w.heap.size+1<w4.heap.size:=by subst hw4;exact hs4
   replace hb0:Below w.heap.size w w4:=by subst hw4;exact below_drewN hb0 nq
   clear hw4 kA kB
  case' a6=>
   obtain⟨M0,M1,rfl,CA⟩:=K
   have q1:(M==1)=false:=beq_eq_false_iff_ne.2 (by omega)
   have q2:(M==2)=false:=beq_eq_false_iff_ne.2 (by omega)
   have q3:(M==3)=false:=beq_eq_false_iff_ne.2 (by omega)
   have q4:(M==4)=false:=beq_eq_false_iff_ne.2 (by omega)
   have q47:(M==47)=false:=beq_eq_false_iff_ne.2 (by omega)
   have q48:(M==48)=false:=beq_eq_false_iff_ne.2 (by omega)
   have ge5:decide (5<=M)=true:=decide_eq_true (by omega)
   have le10:decide (M<=10)=false:=decide_eq_false (by omega)
   have ge11:decide (11<=M)=true:=decide_eq_true (by omega)
   have le15:decide (M<=15)=false:=decide_eq_false (by omega)
   have ge16:decide (16<=M)=true:=decide_eq_true (by omega)
   have le18:decide (M<=18)=false:=decide_eq_false (by omega)
   have ge19:decide (19<=M)=true:=decide_eq_true (by omega)
   have le27:decide (M<=27)=false:=decide_eq_false (by omega)
   have ge28:decide (28<=M)=true:=decide_eq_true (by omega)
   have le45:decide (M<=45)=true:=decide_eq_true (by omega)
   go_wp2_with fail
   refine(CA _).mono ?_
   rintro e w' ⟨rfl,nq,rfl⟩
   rw[qq,qq]
   obtain⟨w4,hw4⟩:∃w4,w4=w2.drewN nq:=⟨_,rfl⟩
   rw[<-hw4,show w2.heap.size=w4.heap.size by rw[hw4];rfl]
   replace k32:w4.cell? ⟨w.heap.size,32,none⟩=some (.int .u32 pc):=by subst hw4;exact k32
   replace k33:w4.cell? ⟨w.heap.size,33,none⟩=some (.int .i64 0):=by subst hw4;exact k33
   replace kR:w4.cell? ⟨w.heap.size,rd,none⟩=some (.int .u32 R0):=by subst hw4;exact kR
   replace kz:∀j,w4.frozen? ⟨w.heap.size,j,none⟩=false:=by subst hw4;exact kz
   replace HR:Hid (w4.heap[w.heap.size]?=some (.cells H 27 (0,0))):=by subst hw4;exact HR
   replace HZ:Hid (w4.heap[w.heap.size+1]?=some (.cells Z 66 (0,0))):=by subst hw4;exact HZ
   replace hs3:w.heap.size<w4.heap.size:=by subst hw4;exact hs3
   replace hs4:w.heap.size+1<w4.heap.size:=by subst hw4;exact hs4
   replace hb0:Below w.heap.size w w4:=by subst hw4;exact below_drewN hb0 nq
   clear hw4 kA kB
  all_goals(
   go_upto_region 69 with fail
   go_wp2_with(first|(refine wpList_load_row rfl 27 _ rfl _ rfl 27 _ (0,0) _ (qF (heap_setCell_same _ _ _ _ _ _ HR.out) _ _) underlying27 rfl (qi hD.out.hH) ?_)|(refine qf rfl 66 0 1 2 _ _ _ rfl _ _ _ rfl rfl rfl _ hD.out.built ?_)|(refine wpList_store_row rfl 66 _ _ rfl _ _ rfl rfl 66 Z (qF ((heap_setCell_other _ _ _ _ (by simp)).trans HZ.out) _ _) hD.out.info (HZS.out.trans hD.out.size.symm) hD.out.ones ?_))
   exact bodyPost_ret (v:=.agg D) (results_cell_row results14 _ _ _ 66 D (0,0) _ rfl (setRow_heap _ _ _ _ _ _ (qF ((heap_setCell_other _ _ _ _ (by simp)).trans HZ.out) _ _)) underlying66 rfl hD.out.info) rfl ⟨rfl,zh (((hb0.setCell (by simp) _).alloc (by simp;omega) _).alloc (by simp;omega) _) (by simp) _⟩)
 ·refine or7 K (fun K=>?b0) (fun K=>?b1) (fun K=>?b2) (fun K=>?b3) (fun K=>?b4) (fun K=>?b5) (fun K=>?b6)
  case' b0=>
   obtain⟨rfl,rfl,rfl⟩:=K
  case' b1=>
   obtain⟨rfl,rfl,rfl⟩:=K
   clear t0 t1
   go_wp2_with fail
   refine(CS _).mono ?_
   rintro e w' ⟨rfl,rfl⟩
  case' b2=>
   obtain⟨rfl,rfl,rfl⟩:=K
   clear t0 t1
   go_wp2_with fail
   refine(CS _).mono ?_
   rintro e w' ⟨rfl,rfl⟩
  case' b3=>
   obtain⟨rfl,rfl,rfl⟩:=K
  case' b4=>
   obtain⟨M0,M1,rfl,CM⟩:=K
   have q1:(M==1)=false:=beq_eq_false_iff_ne.2 (by omega)
   have q2:(M==2)=false:=beq_eq_false_iff_ne.2 (by omega)
   have q3:(M==3)=false:=beq_eq_false_iff_ne.2 (by omega)
   have q4:(M==4)=false:=beq_eq_false_iff_ne.2 (by omega)
   have q47:(M==47)=false:=beq_eq_false_iff_ne.2 (by omega)
   have q48:(M==48)=false:=beq_eq_false_iff_ne.2 (by omega)
   have ge5:decide (5<=M)=true:=decide_eq_true (by omega)
   have le10:decide (M<=10)=false:=decide_eq_false (by omega)
   have ge11:decide (11<=M)=true:=decide_eq_true (by omega)
   have le15:decide (M<=15)=true:=decide_eq_true (by omega)
   have ge16:decide (16<=M)=false:=decide_eq_false (by omega)
   have le18:decide (M<=18)=true:=decide_eq_true (by omega)
   have ge19:decide (19<=M)=false:=decide_eq_false (by omega)
   have le27:decide (M<=27)=true:=decide_eq_true (by omega)
   have ge28:decide (28<=M)=false:=decide_eq_false (by omega)
   have le45:decide (M<=45)=true:=decide_eq_true (by omega)
   go_wp2_with fail
   refine(CM _ ((hb0.alloc (by omega) _).alloc (by simp;omega) _)).mono ?_
   rintro e w' ⟨rfl,rfl⟩
  case' b5=>
   obtain⟨M0,M1,rfl,CP,CA⟩:=K
   have q1:(M==1)=false:=beq_eq_false_iff_ne.2 (by omega)
   have q2:(M==2)=false:=beq_eq_false_iff_ne.2 (by omega)
   have q3:(M==3)=false:=beq_eq_false_iff_ne.2 (by omega)
   have q4:(M==4)=false:=beq_eq_false_iff_ne.2 (by omega)
   have q47:(M==47)=false:=beq_eq_false_iff_ne.2 (by omega)
   have q48:(M==48)=false:=beq_eq_false_iff_ne.2 (by omega)
   have ge5:decide (5<=M)=true:=decide_eq_true (by omega)
   have le10:decide (M<=10)=false:=decide_eq_false (by omega)
   have ge11:decide (11<=M)=true:=decide_eq_true (by omega)
   have le15:decide (M<=15)=false:=decide_eq_false (by omega)
   have ge16:decide (16<=M)=true:=decide_eq_true (by omega)
   have le18:decide (M<=18)=false:=decide_eq_false (by omega)
   have ge19:decide (19<=M)=true:=decide_eq_true (by omega)
   have le27:decide (M<=27)=true:=decide_eq_true (by omega)
   have ge28:decide (28<=M)=false:=decide_eq_false (by omega)
   have le45:decide (M<=45)=true:=decide_eq_true (by omega)
   go_wp2_with fail
   refine(CP _).mono ?_
   rintro e w' ⟨rfl,rfl⟩
   go_wp2_with fail
   refine(CA _).mono ?_
   rintro e w' ⟨rfl,nq,rfl⟩
   rw[qq,qq]
   obtain⟨w4,hw4⟩:∃w4,w4=w2.drewN nq:=⟨_,rfl⟩
   rw[<-hw4,show w2.heap.size=w4.heap.size by rw[hw4];rfl]
   replace k32:w4.cell? ⟨w.heap.size,32,none⟩=some (.int .u32 pc):=by subst hw4;exact k32
   replace k33:w4.cell? ⟨w.heap.size,33,none⟩=some (.int .i64 0):=by subst hw4;exact k33
   replace kR:w4.cell? ⟨w.heap.size,rd,none⟩=some (.int .u32 R0):=by subst hw4;exact kR
   replace kz:∀j,w4.frozen? ⟨w.heap.size,j,none⟩=false:=by subst hw4;exact kz
   replace HR:Hid (w4.heap[w.heap.size]?=some (.cells H 27 (0,0))):=by subst hw4;exact HR
   replace HZ:Hid (w4.heap[w.heap.size+1]?=some (.cells Z 66 (0,0))):=by subst hw4;exact HZ
   replace hs3:w.heap.size<w4.heap.size:=by subst hw4;exact hs3
   replace hs4:w.heap.size+1<w4.heap.size:=by subst hw4;exact hs4
   replace hb0:Below w.heap.size w w4:=by subst hw4;exact below_drewN hb0 nq
   clear hw4 kA kB
  case' b6=>
   obtain⟨M0,M1,rfl,CA⟩:=K
   have q1:(M==1)=false:=beq_eq_false_iff_ne.2 (by omega)
   have q2:(M==2)=false:=beq_eq_false_iff_ne.2 (by omega)
   have q3:(M==3)=false:=beq_eq_false_iff_ne.2 (by omega)
   have q4:(M==4)=false:=beq_eq_false_iff_ne.2 (by omega)
   have q47:(M==47)=false:=beq_eq_false_iff_ne.2 (by omega)
   have q48:(M==48)=false:=beq_eq_false_iff_ne.2 (by omega)
   have ge5:decide (5<=M)=true:=decide_eq_true (by omega)
   have le10:decide (M<=10)=false:=decide_eq_false (by omega)
   have ge11:decide (11<=M)=true:=decide_eq_true (by omega)
   have le15:decide (M<=15)=false:=decide_eq_false (by omega)
   have ge16:decide (16<=M)=true:=decide_eq_true (by omega)
   have le18:decide (M<=18)=false:=decide_eq_false (by omega)
   have ge19:decide (19<=M)=true:=decide_eq_true (by omega)
   have le27:decide (M<=27)=false:=decide_eq_false (by omega)
   have ge28:decide (28<=M)=true:=decide_eq_true (by omega)
   have le45:decide (M<=45)=true:=decide_eq_true (by omega)
   go_wp2_with fail
   refine(CA _).mono ?_
   rintro e w' ⟨rfl,nq,rfl⟩
   rw[qq,qq]
   obtain⟨w4,hw4⟩:∃w4,w4=w2.drewN nq:=⟨_,rfl⟩
   rw[<-hw4,show w2.heap.size=w4.heap.size by rw[hw4];rfl]
   replace k32:w4.cell? ⟨w.heap.size,32,none⟩=some (.int .u32 pc):=by subst hw4;exact k32
   replace k33:w4.cell? ⟨w.heap.size,33,none⟩=some (.int .i64 0):=by subst hw4;exact k33
   replace kR:w4.cell? ⟨w.heap.size,rd,none⟩=some (.int .u32 R0):=by subst hw4;exact kR
   replace kz:∀j,w4.frozen? ⟨w.heap.size,j,none⟩=false:=by subst hw4;exact kz
   replace HR:Hid (w4.heap[w.heap.size]?=some (.cells H 27 (0,0))):=by subst hw4;exact HR
   replace HZ:Hid (w4.heap[w.heap.size+1]?=some (.cells Z 66 (0,0))):=by subst hw4;exact HZ
   replace hs3:w.heap.size<w4.heap.size:=by subst hw4;exact hs3
   replace hs4:w.heap.size+1<w4.heap.size:=by subst hw4;exact hs4
   replace hb0:Below w.heap.size w w4:=by subst hw4;exact below_drewN hb0 nq
   clear hw4 kA kB
  all_goals(
   go_upto_region 69 with fail
   go_wp2_with(first|(refine wpList_load_row rfl 27 _ rfl _ rfl 27 _ (0,0) _ (qF (heap_setCell_same _ _ _ _ _ _ (heap_setCell_same _ _ _ _ _ _ HR.out)) _ _) underlying27 rfl (qi hD.out.hH) ?_)|(refine qf rfl 66 0 1 2 _ _ _ rfl _ _ _ rfl rfl rfl _ hD.out.built ?_)|(refine wpList_store_row rfl 66 _ _ rfl _ _ rfl rfl 66 Z (qF ((heap_setCell_other _ _ _ _ (by simp)).trans ((heap_setCell_other _ _ _ _ (by simp)).trans HZ.out)) _ _) hD.out.info (HZS.out.trans hD.out.size.symm) hD.out.ones ?_))
   exact bodyPost_ret (v:=.agg D) (results_cell_row results14 _ _ _ 66 D (0,0) _ rfl (setRow_heap _ _ _ _ _ _ (qF ((heap_setCell_other _ _ _ _ (by simp)).trans ((heap_setCell_other _ _ _ _ (by simp)).trans HZ.out)) _ _)) underlying66 rfl hD.out.info) rfl ⟨rfl,zh ((((hb0.setCell (by simp) _).setCell (by simp) _).alloc (by simp;omega) _).alloc (by simp;omega) _) (by simp) _⟩)
end Go.Proofs.YtpiohehijkpghabGreatDoor
