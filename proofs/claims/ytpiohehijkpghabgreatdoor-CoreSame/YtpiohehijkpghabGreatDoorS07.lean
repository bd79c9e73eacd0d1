/- The document's Step of the other instructions that neither load nor store: walked. -/
import Derived.Deep.Cut
import Derived.WalkSmall
import Derived.Test.YtpiohehijkpghabGreatDoorS06
import Derived.Test.YtpiohehijkpghabGreatDoorS03
import Derived.Test.YtpiohehijkpghabGreatDoorS05
set_option maxRecDepth 20000
set_option maxHeartbeats 8000000
set_option linter.unusedVariables false
open Go.Proofs.Tryz
namespace Go.Proofs.YtpiohehijkpghabGreatDoor
open Go.RowKit
open Hy
theorem znN(H:Array Value)(pc:Int)(p:Option Addr)(n c:Nat)(w:World)(X M I N NX TH A B R0 PN:Int)(rd s1 s2:Nat)(nx:Int)(D:Array Value)(q:QB H pc p n c w X M I N NX TH A B R0 PN rd s1 s2)
  (K:(5<=M/\M<=10/\nx=PN/\∀W,Calls prog 29 #[.int .i64 M,.int .u32 A,.int .u32 B] W fun e w'=>e=.returned (.bool true)/\w'=W)\/
   (5<=M/\M<=10/\nx=NX/\∀W,Calls prog 29 #[.int .i64 M,.int .u32 A,.int .u32 B] W fun e w'=>e=.returned (.bool false)/\w'=W)\/(M=46/\nx=NX))
  (hD:Hid (Did D (ccs pc nx 0 0 0 0 0 0 0 false 0) (H.setIfInBounds 32 (.int .u32 nx)) p n c)):
  Calls prog 14 #[.agg H,.slice p n c] w fun e w'=>e=.returned (.agg D)/\Below w.heap.size w w':=by
 obtain⟨hH,hO,h32,h33,h34,hA,hB,hR,l1,l2,lr,i0,i1,t0,t1,CL,CD,CO,CN,CT,CS⟩:=q
 have HH:Hid (H.size=35):=hH
 have HO:Hid (Ones H):=hO
 clear hH hO
 go_enter func14,ntmps14
 go_wp2_with fail
 refine(CL _ (((Below.refl _ _).alloc (Nat.le_refl _) _).alloc (by simp) _)).mono ?_
 rintro e w' ⟨rfl,rfl⟩
 go_wp2_with fail
 refine(CD _).mono ?_
 rintro e w2 ⟨rfl,hk⟩
 have hs2:=hk.size
 simp at hs2
 have hrow:w2.heap[w.heap.size]?=some (.cells H 27 (0,0)):=(hk.block _ (by simp;omega)).trans (heap_alloc2_old _ _ _)
 obtain⟨Z,hZ,hres⟩:∃Z:Array Value,Z.size=47/\w2.heap[w.heap.size+1]?=some (.cells Z 66 (0,0)):=⟨_,rfl,(hk.block _ (by simp)).trans (heap_alloc2_new _ _ _)⟩
 have HZS:Hid (Z.size=47):=hZ
 have hb0:Below w.heap.size w w2:=(((Below.refl _ _).alloc (Nat.le_refl _) _).alloc (by simp) _).trans (hk.mono (by simp;omega))
 have k32:=(cell_of_row w2 w.heap.size 32 _ _ _ hrow).trans h32
 have k33:=(cell_of_row w2 w.heap.size 33 _ _ _ hrow).trans h33
 have kA:=(cell_of_row w2 w.heap.size s1 _ _ _ hrow).trans hA
 have kB:=(cell_of_row w2 w.heap.size s2 _ _ _ hrow).trans hB
 have kR:=(cell_of_row w2 w.heap.size rd _ _ _ hrow).trans hR
 have kz:∀j,w2.frozen? ⟨w.heap.size,j,none⟩=false:=fun j=>frozen_of_row _ _ j _ _ hrow
 have HR:Hid (w2.heap[w.heap.size]?=some (.cells H 27 (0,0))):=hrow
 have HZ:Hid (w2.heap[w.heap.size+1]?=some (.cells Z 66 (0,0))):=hres
 have hs3:w.heap.size<w2.heap.size:=by omega
 have hs4:w.heap.size+1<w2.heap.size:=by omega
 clear hZ hk hrow hres hA hB hR h32 h33 h34 CL CD hs2
 go_wp2_with fail
 refine(CO _).mono ?_
 rintro e w' ⟨rfl,rfl⟩
 go_wp2_with fail
 refine(CN _).mono ?_
 rintro e w' ⟨rfl,rfl⟩
 go_wp2_with fail
 refine(CT _).mono ?_
 rintro e w' ⟨rfl,rfl⟩
 refine or3 K (fun K=>?c0) (fun K=>?c1) (fun K=>?c2)
 case' c0=>
  obtain⟨M0,M1,rfl,CH⟩:=K
  have q1:(M==1)=false:=beq_eq_false_iff_ne.2 (by omega)
  have q2:(M==2)=false:=beq_eq_false_iff_ne.2 (by omega)
  have q3:(M==3)=false:=beq_eq_false_iff_ne.2 (by omega)
  have q4:(M==4)=false:=beq_eq_false_iff_ne.2 (by omega)
  have q47:(M==47)=false:=beq_eq_false_iff_ne.2 (by omega)
  have q48:(M==48)=false:=beq_eq_false_iff_ne.2 (by omega)
  have ge5:decide (5<=M)=true:=decide_eq_true (by omega)
  have le10:decide (M<=10)=true:=decide_eq_true (by omega)
  have ge11:decide (11<=M)=false:=decide_eq_false (by omega)
  have le15:decide (M<=15)=true:=decide_eq_true (by omega)
  have ge16:decide (16<=M)=false:=decide_eq_false (by omega)
  have le18:decide (M<=18)=true:=decide_eq_true (by omega)
  have ge19:decide (19<=M)=false:=decide_eq_false (by omega)
  have le27:decide (M<=27)=true:=decide_eq_true (by omega)
  have ge28:decide (28<=M)=false:=decide_eq_false (by omega)
  have le45:decide (M<=45)=true:=decide_eq_true (by omega)
  go_wp2_with fail
  refine(CH _).mono ?_
  rintro e w' ⟨rfl,rfl⟩
  go_wp2_with fail
  refine(CS _).mono ?_
  rintro e w' ⟨rfl,rfl⟩
 case' c1=>
  obtain⟨M0,M1,rfl,CH⟩:=K
  have q1:(M==1)=false:=beq_eq_false_iff_ne.2 (by omega)
  have q2:(M==2)=false:=beq_eq_false_iff_ne.2 (by omega)
  have q3:(M==3)=false:=beq_eq_false_iff_ne.2 (by omega)
  have q4:(M==4)=false:=beq_eq_false_iff_ne.2 (by omega)
  have q47:(M==47)=false:=beq_eq_false_iff_ne.2 (by omega)
  have q48:(M==48)=false:=beq_eq_false_iff_ne.2 (by omega)
  have ge5:decide (5<=M)=true:=decide_eq_true (by omega)
  have le10:decide (M<=10)=true:=decide_eq_true (by omega)
  have ge11:decide (11<=M)=false:=decide_eq_false (by omega)
  have le15:decide (M<=15)=true:=decide_eq_true (by omega)
  have ge16:decide (16<=M)=false:=decide_eq_false (by omega)
  have le18:decide (M<=18)=true:=decide_eq_true (by omega)
  have ge19:decide (19<=M)=false:=decide_eq_false (by omega)
  have le27:decide (M<=27)=true:=decide_eq_true (by omega)
  have ge28:decide (28<=M)=false:=decide_eq_false (by omega)
  have le45:decide (M<=45)=true:=decide_eq_true (by omega)
  go_wp2_with fail
  refine(CH _).mono ?_
  rintro e w' ⟨rfl,rfl⟩
 case' c2=>
  obtain⟨rfl,rfl⟩:=K
 all_goals(
  go_upto_region 69 with fail
  go_wp2_with(first|(refine wpList_load_row rfl 27 _ rfl _ rfl 27 _ (0,0) _ (qF (heap_setCell_same _ _ _ _ _ _ HR.out) _ _) underlying27 rfl (qi hD.out.hH) ?_)|(refine qf rfl 66 0 1 2 _ _ _ rfl _ _ _ rfl rfl rfl _ hD.out.built ?_)|(refine wpList_store_row rfl 66 _ _ rfl _ _ rfl rfl 66 Z (qF ((heap_setCell_other _ _ _ _ (by simp)).trans HZ.out) _ _) hD.out.info (HZS.out.trans hD.out.size.symm) hD.out.ones ?_))
  exact bodyPost_ret (v:=.agg D) (results_cell_row results14 _ _ _ 66 D (0,0) _ rfl (setRow_heap _ _ _ _ _ _ (qF ((heap_setCell_other _ _ _ _ (by simp)).trans HZ.out) _ _)) underlying66 rfl hD.out.info) rfl ⟨rfl,zh (((hb0.setCell (by simp) _).alloc (by simp;omega) _).alloc (by simp;omega) _) (by simp) _⟩)
theorem znO(H:Array Value)(pc:Int)(p:Option Addr)(n c:Nat)(w:World)(X I N NX TH A B R0 PN:Int)(rd s1 s2:Nat)(T17 T10:Int)(D:Array Value)(q:QB H pc p n c w X 47 I N NX TH A B R0 PN rd s1 s2)
  (h17:H[17]?=some (.int .u32 T17)) (h10:H[10]?=some (.int .u32 T10))
  (K:(T17=0/\Hid (Did D (ccs pc pc 1 0 0 0 0 0 0 false 0) ((H.setIfInBounds 33 (.int .i64 1)).setIfInBounds 32 (.int .u32 pc)) p n c))\/(T17=1/\Hid (Did D (ccs pc NX 0 0 0 0 0 0 0 true T10) (H.setIfInBounds 32 (.int .u32 NX)) p n c))):
  Calls prog 14 #[.agg H,.slice p n c] w fun e w'=>e=.returned (.agg D)/\Below w.heap.size w w':=by
 obtain⟨hH,hO,h32,h33,h34,hA,hB,hR,l1,l2,lr,i0,i1,t0,t1,CL,CD,CO,CN,CT,CS⟩:=q
 have HH:Hid (H.size=35):=hH
 have HO:Hid (Ones H):=hO
 clear hH hO
 go_enter func14,ntmps14
 go_wp2_with fail
 refine(CL _ (((Below.refl _ _).alloc (Nat.le_refl _) _).alloc (by simp) _)).mono ?_
 rintro e w' ⟨rfl,rfl⟩
 go_wp2_with fail
 refine(CD _).mono ?_
 rintro e w2 ⟨rfl,hk⟩
 have hs2:=hk.size
 simp at hs2
 have hrow:w2.heap[w.heap.size]?=some (.cells H 27 (0,0)):=(hk.block _ (by simp;omega)).trans (heap_alloc2_old _ _ _)
 obtain⟨Z,hZ,hres⟩:∃Z:Array Value,Z.size=47/\w2.heap[w.heap.size+1]?=some (.cells Z 66 (0,0)):=⟨_,rfl,(hk.block _ (by simp)).trans (heap_alloc2_new _ _ _)⟩
 have HZS:Hid (Z.size=47):=hZ
 have hb0:Below w.heap.size w w2:=(((Below.refl _ _).alloc (Nat.le_refl _) _).alloc (by simp) _).trans (hk.mono (by simp;omega))
 have k32:=(cell_of_row w2 w.heap.size 32 _ _ _ hrow).trans h32
 have k33:=(cell_of_row w2 w.heap.size 33 _ _ _ hrow).trans h33
 have kA:=(cell_of_row w2 w.heap.size s1 _ _ _ hrow).trans hA
 have kB:=(cell_of_row w2 w.heap.size s2 _ _ _ hrow).trans hB
 have kR:=(cell_of_row w2 w.heap.size rd _ _ _ hrow).trans hR
 have k17:=(cell_of_row w2 w.heap.size 17 _ _ _ hrow).trans h17
 have k10:=(cell_of_row w2 w.heap.size 10 _ _ _ hrow).trans h10
 have kz:∀j,w2.frozen? ⟨w.heap.size,j,none⟩=false:=fun j=>frozen_of_row _ _ j _ _ hrow
 have HR:Hid (w2.heap[w.heap.size]?=some (.cells H 27 (0,0))):=hrow
 have HZ:Hid (w2.heap[w.heap.size+1]?=some (.cells Z 66 (0,0))):=hres
 have hs3:w.heap.size<w2.heap.size:=by omega
 have hs4:w.heap.size+1<w2.heap.size:=by omega
 clear hZ hk hrow hres hA hB hR h32 h33 h34 CL CD hs2
 go_wp2_with fail
 refine(CO _).mono ?_
 rintro e w' ⟨rfl,rfl⟩
 go_wp2_with fail
 refine(CN _).mono ?_
 rintro e w' ⟨rfl,rfl⟩
 go_wp2_with fail
 refine(CT _).mono ?_
 rintro e w' ⟨rfl,rfl⟩
 rcases K with⟨rfl,hD⟩|⟨rfl,hD⟩
 ·go_upto_region 69 with fail
  go_wp2_with(first|(refine wpList_load_row rfl 27 _ rfl _ rfl 27 _ (0,0) _ (qF (heap_setCell_same _ _ _ _ _ _ (heap_setCell_same _ _ _ _ _ _ HR.out)) _ _) underlying27 rfl (qi hD.out.hH) ?_)|(refine qf rfl 66 0 1 2 _ _ _ rfl _ _ _ rfl rfl rfl _ hD.out.built ?_)|(refine wpList_store_row rfl 66 _ _ rfl _ _ rfl rfl 66 Z (qF ((heap_setCell_other _ _ _ _ (by simp)).trans ((heap_setCell_other _ _ _ _ (by simp)).trans HZ.out)) _ _) hD.out.info (HZS.out.trans hD.out.size.symm) hD.out.ones ?_))
  exact bodyPost_ret (v:=.agg D) (results_cell_row results14 _ _ _ 66 D (0,0) _ rfl (setRow_heap _ _ _ _ _ _ (qF ((heap_setCell_other _ _ _ _ (by simp)).trans ((heap_setCell_other _ _ _ _ (by simp)).trans HZ.out)) _ _)) underlying66 rfl hD.out.info) rfl ⟨rfl,zh ((((hb0.setCell (by simp) _).setCell (by simp) _).alloc (by simp;omega) _).alloc (by simp;omega) _) (by simp) _⟩
 ·go_upto_region 69 with fail
  go_wp2_with(first|(refine wpList_load_row rfl 27 _ rfl _ rfl 27 _ (0,0) _ (qF (heap_setCell_same _ _ _ _ _ _ HR.out) _ _) underlying27 rfl (qi hD.out.hH) ?_)|(refine qf rfl 66 0 1 2 _ _ _ rfl _ _ _ rfl rfl rfl _ hD.out.built ?_)|(refine wpList_store_row rfl 66 _ _ rfl _ _ rfl rfl 66 Z (qF ((heap_setCell_other _ _ _ _ (by simp)).trans HZ.out) _ _) hD.out.info (HZS.out.trans hD.out.size.symm) hD.out.ones ?_))
  exact bodyPost_ret (v:=.agg D) (results_cell_row results14 _ _ _ 66 D (0,0) _ rfl (setRow_heap _ _ _ _ _ _ (qF ((heap_setCell_other _ _ _ _ (by simp)).trans HZ.out) _ _)) underlying66 rfl hD.out.info) rfl ⟨rfl,zh (((hb0.setCell (by simp) _).alloc (by simp;omega) _).alloc (by simp;omega) _) (by simp) _⟩
theorem zd6(H:Array Value)(pc:Int)(p:Option Addr)(n c:Nat)(w:World)(X M I N NX TH A B R0 PN:Int)(rd s1 s2:Nat)(k:Int)(D:Array Value)(q:QB H pc p n c w X M I N NX TH A B R0 PN rd s1 s2)(T17 T10:Int)(h17:H[17]?=some (.int .u32 T17))(h10:H[10]?=some (.int .u32 T10))
  (K:(11<=M/\M<=15/\k=3/\∀W,Below w.heap.size w W->Calls prog 24 #[.slice p n c,.int .i64 M,.int .u32 TH] W fun e w'=>e=.returned (.tuple #[.int .u32 0,.bool false])/\w'=W)\/
   (16<=M/\M<=18/\k=4/\∀W,Below w.heap.size w W->Calls prog 30 #[.slice p n c,.int .i64 M,.int .u32 TH,.int .u32 B] W fun e w'=>e=.returned (.tuple #[.slice none 0 0,.bool false])/\w'=W)\/
   (M=47/\k=5/\(T17==0)=false/\(T17==1)=false)\/(M=48/\k=6))
  (CX:∀W,Calls prog 25 #[.agg H,.slice p n c,.int .i64 k] W fun e w'=>e=.returned (.agg D)/\Below W.heap.size W w')
  (hD:Hid (Did D (ccs pc pc 2 k 0 0 0 0 0 false 0) ((H.setIfInBounds 33 (.int .i64 2)).setIfInBounds 34 (.int .i64 k)) p n c)):
  Calls prog 14 #[.agg H,.slice p n c] w fun e w'=>e=.returned (.agg D)/\Below w.heap.size w w':=by
 obtain⟨hH,hO,h32,h33,h34,hA,hB,hR,l1,l2,lr,i0,i1,t0,t1,CL,CD,CO,CN,CT,CS⟩:=q
 have HH:Hid (H.size=35):=hH
 have HO:Hid (Ones H):=hO
 clear hH hO
 go_enter func14,ntmps14
 go_wp2_with fail
 refine(CL _ (((Below.refl _ _).alloc (Nat.le_refl _) _).alloc (by simp) _)).mono ?_
 rintro e w' ⟨rfl,rfl⟩
 go_wp2_with fail
 refine(CD _).mono ?_
 rintro e w2 ⟨rfl,hk⟩
 have hs2:=hk.size
 simp at hs2
 have hrow:w2.heap[w.heap.size]?=some (.cells H 27 (0,0)):=(hk.block _ (by simp;omega)).trans (heap_alloc2_old _ _ _)
 obtain⟨Z,hZ,hres⟩:∃Z:Array Value,Z.size=47/\w2.heap[w.heap.size+1]?=some (.cells Z 66 (0,0)):=⟨_,rfl,(hk.block _ (by simp)).trans (heap_alloc2_new _ _ _)⟩
 have HZS:Hid (Z.size=47):=hZ
 have hb0:Below w.heap.size w w2:=(((Below.refl _ _).alloc (Nat.le_refl _) _).alloc (by simp) _).trans (hk.mono (by simp;omega))
 have k32:=(cell_of_row w2 w.heap.size 32 _ _ _ hrow).trans h32
 have k33:=(cell_of_row w2 w.heap.size 33 _ _ _ hrow).trans h33
 have kA:=(cell_of_row w2 w.heap.size s1 _ _ _ hrow).trans hA
 have kB:=(cell_of_row w2 w.heap.size s2 _ _ _ hrow).trans hB
 have kR:=(cell_of_row w2 w.heap.size rd _ _ _ hrow).trans hR
 have k17:=(cell_of_row w2 w.heap.size 17 _ _ _ hrow).trans h17
 have k10:=(cell_of_row w2 w.heap.size 10 _ _ _ hrow).trans h10
 have kz:∀j,w2.frozen? ⟨w.heap.size,j,none⟩=false:=fun j=>frozen_of_row _ _ j _ _ hrow
 have HR:Hid (w2.heap[w.heap.size]?=some (.cells H 27 (0,0))):=hrow
 have HZ:Hid (w2.heap[w.heap.size+1]?=some (.cells Z 66 (0,0))):=hres
 have hs3:w.heap.size<w2.heap.size:=by omega
 have hs4:w.heap.size+1<w2.heap.size:=by omega
 clear hZ hk hrow hres hA hB hR h32 h33 h34 CL CD hs2
 go_wp2_with fail
 refine(CO _).mono ?_
 rintro e w' ⟨rfl,rfl⟩
 go_wp2_with fail
 refine(CN _).mono ?_
 rintro e w' ⟨rfl,rfl⟩
 go_wp2_with fail
 refine(CT _).mono ?_
 rintro e w' ⟨rfl,rfl⟩
 refine or4 K (fun K=>?d0) (fun K=>?d1) (fun K=>?d2) (fun K=>?d3)
 case' d0=>
  obtain⟨M0,M1,rfl,CM⟩:=K
  have q1:(M==1)=false:=beq_eq_false_iff_ne.2 (by omega)
  have q2:(M==2)=false:=beq_eq_false_iff_ne.2 (by omega)
  have q3:(M==3)=false:=beq_eq_false_iff_ne.2 (by omega)
  have q4:(M==4)=false:=beq_eq_false_iff_ne.2 (by omega)
  have q47:(M==47)=false:=beq_eq_false_iff_ne.2 (by omega)
  have q48:(M==48)=false:=beq_eq_false_iff_ne.2 (by omega)
  have ge5:decide (5<=M)=true:=decide_eq_true (by omega)
  have le10:decide (M<=10)=false:=decide_eq_false (by omega)
  have ge11:decide (11<=M)=true:=decide_eq_true (by omega)
  have le15:decide (M<=15)=true:=decide_eq_true (by omega)
  have ge16:decide (16<=M)=false:=decide_eq_false (by omega)
  have le18:decide (M<=18)=true:=decide_eq_true (by omega)
  have ge19:decide (19<=M)=false:=decide_eq_false (by omega)
  have le27:decide (M<=27)=true:=decide_eq_true (by omega)
  have ge28:decide (28<=M)=false:=decide_eq_false (by omega)
  have le45:decide (M<=45)=true:=decide_eq_true (by omega)
  go_wp2_with fail
  refine(CM _ ((hb0.alloc (by omega) _).alloc (by simp;omega) _)).mono ?_
  rintro e w' ⟨rfl,rfl⟩
  go_upto_region 33 with fail
 case' d1=>
  obtain⟨M0,M1,rfl,CM⟩:=K
  have q1:(M==1)=false:=beq_eq_false_iff_ne.2 (by omega)
  have q2:(M==2)=false:=beq_eq_false_iff_ne.2 (by omega)
  have q3:(M==3)=false:=beq_eq_false_iff_ne.2 (by omega)
  have q4:(M==4)=false:=beq_eq_false_iff_ne.2 (by omega)
  have q47:(M==47)=false:=beq_eq_false_iff_ne.2 (by omega)
  have q48:(M==48)=false:=beq_eq_false_iff_ne.2 (by omega)
  have ge5:decide (5<=M)=true:=decide_eq_true (by omega)
  have le10:decide (M<=10)=false:=decide_eq_false (by omega)
  have ge11:decide (11<=M)=true:=decide_eq_true (by omega)
  have le15:decide (M<=15)=false:=decide_eq_false (by omega)
  have ge16:decide (16<=M)=true:=decide_eq_true (by omega)
  have le18:decide (M<=18)=true:=decide_eq_true (by omega)
  have ge19:decide (19<=M)=false:=decide_eq_false (by omega)
  have le27:decide (M<=27)=true:=decide_eq_true (by omega)
  have ge28:decide (28<=M)=false:=decide_eq_false (by omega)
  have le45:decide (M<=45)=true:=decide_eq_true (by omega)
  go_wp2_with fail
  refine(CM _ ((hb0.alloc (by omega) _).alloc (by simp;omega) _)).mono ?_
  rintro e w' ⟨rfl,rfl⟩
  go_upto_region 39 with fail
 case' d2=>
  obtain⟨rfl,rfl,n0,n1⟩:=K
  go_upto_region 59 with fail
 case' d3=>
  obtain⟨rfl,rfl⟩:=K
  go_upto_region 61 with fail
 all_goals(
  go_wp2_with(refine wpList_load_row rfl 27 _ rfl _ rfl 27 _ (0,0) _ (qF HR.out _ _) underlying27 rfl (qi HH.out) ?_)
  refine(CX _).mono ?_
  rintro e w3 ⟨rfl,hk3⟩
  have HZ3:Hid (w3.heap[w.heap.size+1]?=some (.cells Z 66 (0,0))):=(hk3.block _ (by simp;omega)).trans (qF HZ.out _ _)
  have hb3:Below w.heap.size w w3:=((hb0.alloc (by omega) _).alloc (by simp;omega) _).trans (hk3.mono (by simp;omega))
  clear hk3
  go_wp2_with(refine wpList_store_row rfl 66 _ _ rfl _ _ rfl rfl 66 Z (HZ3.out) hD.out.info (HZS.out.trans hD.out.size.symm) hD.out.ones ?_)
  exact bodyPost_ret (v:=.agg D) (results_cell_row results14 _ _ _ 66 D (0,0) _ rfl (setRow_heap _ _ _ _ _ _ (HZ3.out)) underlying66 rfl hD.out.info) rfl ⟨rfl,zh (hb3) (by simp) _⟩)
theorem znP(H:Array Value)(pc:Int)(p:Option Addr)(n c:Nat)(w:World)(X:Int)(D:Array Value)(hH:H.size=35)(h32:H[32]?=some (.int .u32 pc))
  (CL:∀W,Below w.heap.size w W->Calls prog 24 #[.slice p n c,.int .i64 13,.int .u32 pc] W fun e w'=>e=.returned (.tuple #[.int .u32 X,.bool false])/\w'=W)
  (CX:∀W,Calls prog 25 #[.agg H,.slice p n c,.int .i64 1] W fun e w'=>e=.returned (.agg D)/\Below W.heap.size W w')
  (hD:Hid (Did D (ccs pc pc 2 1 0 0 0 0 0 false 0) ((H.setIfInBounds 33 (.int .i64 2)).setIfInBounds 34 (.int .i64 1)) p n c)):
  Calls prog 14 #[.agg H,.slice p n c] w fun e w'=>e=.returned (.agg D)/\Below w.heap.size w w':=by
 have HH:Hid (H.size=35):=hH
 clear hH
 go_enter func14,ntmps14
 go_wp2_with fail
 refine(CL _ (((Below.refl _ _).alloc (Nat.le_refl _) _).alloc (by simp) _)).mono ?_
 rintro e w' ⟨rfl,rfl⟩
 go_upto_region 3 with fail
 go_wp2_with(refine wpList_load_row rfl 27 _ rfl _ rfl 27 _ (0,0) _ (heap_alloc2_old _ _ _) underlying27 rfl (qi HH.out) ?_)
 refine(CX _).mono ?_
 rintro e w3 ⟨rfl,hk⟩
 have hs2:=hk.size
 simp at hs2
 obtain⟨Z,hZ,hres⟩:∃Z:Array Value,Z.size=47/\w3.heap[w.heap.size+1]?=some (.cells Z 66 (0,0)):=⟨_,rfl,(hk.block _ (by simp)).trans (heap_alloc2_new _ _ _)⟩
 have HZS:Hid (Z.size=47):=hZ
 have HZ3:Hid (w3.heap[w.heap.size+1]?=some (.cells Z 66 (0,0))):=hres
 have hb3:Below w.heap.size w w3:=(((Below.refl _ _).alloc (Nat.le_refl _) _).alloc (by simp) _).trans (hk.mono (by simp;omega))
 clear hk hZ hres CL
 go_wp2_with(refine wpList_store_row rfl 66 _ _ rfl _ _ rfl rfl 66 Z (HZ3.out) hD.out.info (HZS.out.trans hD.out.size.symm) hD.out.ones ?_)
 exact bodyPost_ret (v:=.agg D) (results_cell_row results14 _ _ _ 66 D (0,0) _ rfl (setRow_heap _ _ _ _ _ _ (HZ3.out)) underlying66 rfl hD.out.info) rfl ⟨rfl,zh (hb3) (by simp) _⟩
theorem zpM(H:Array Value)(pc:Int)(p:Option Addr)(n c:Nat)(w:World)(X:Int)(D:Array Value)(hH:H.size=35)(h32:H[32]?=some (.int .u32 pc))
  (CL:∀W,Below w.heap.size w W->Calls prog 24 #[.slice p n c,.int .i64 13,.int .u32 pc] W fun e w'=>e=.returned (.tuple #[.int .u32 X,.bool true])/\w'=W)
  (CD:∀W,Calls prog 26 #[.int .u32 X] W fun e w'=>e=.returned (.tuple #[iv 0 0 0 0 0,.bool false])/\Below W.heap.size W w')
  (CX:∀W,Calls prog 25 #[.agg H,.slice p n c,.int .i64 2] W fun e w'=>e=.returned (.agg D)/\Below W.heap.size W w')
  (hD:Hid (Did D (ccs pc pc 2 2 0 0 0 0 0 false 0) ((H.setIfInBounds 33 (.int .i64 2)).setIfInBounds 34 (.int .i64 2)) p n c)):
  Calls prog 14 #[.agg H,.slice p n c] w fun e w'=>e=.returned (.agg D)/\Below w.heap.size w w':=by
 have HH:Hid (H.size=35):=hH
 clear hH
 go_enter func14,ntmps14
 go_wp2_with fail
 refine(CL _ (((Below.refl _ _).alloc (Nat.le_refl _) _).alloc (by simp) _)).mono ?_
 rintro e w' ⟨rfl,rfl⟩
 go_wp2_with fail
 refine(CD _).mono ?_
 rintro e w2 ⟨rfl,hk⟩
 have hs2:=hk.size
 simp at hs2
 have HR:Hid (w2.heap[w.heap.size]?=some (.cells H 27 (0,0))):=(hk.block _ (by simp;omega)).trans (heap_alloc2_old _ _ _)
 obtain⟨Z,hZ,hres⟩:∃Z:Array Value,Z.size=47/\w2.heap[w.heap.size+1]?=some (.cells Z 66 (0,0)):=⟨_,rfl,(hk.block _ (by simp)).trans (heap_alloc2_new _ _ _)⟩
 have HZS:Hid (Z.size=47):=hZ
 have HZ:Hid (w2.heap[w.heap.size+1]?=some (.cells Z 66 (0,0))):=hres
 have hb0:Below w.heap.size w w2:=(((Below.refl _ _).alloc (Nat.le_refl _) _).alloc (by simp) _).trans (hk.mono (by simp;omega))
 have hs3:w.heap.size<w2.heap.size:=by omega
 have hs4:w.heap.size+1<w2.heap.size:=by omega
 clear hk hZ hres CL CD hs2
 go_upto_region 6 with fail
 go_wp2_with(refine wpList_load_row rfl 27 _ rfl _ rfl 27 _ (0,0) _ ((Below.heap_alloc _ _ _ hs3).trans HR.out) underlying27 rfl (qi HH.out) ?_)
 refine(CX _).mono ?_
 rintro e w3 ⟨rfl,hk3⟩
 have HZ3:Hid (w3.heap[w.heap.size+1]?=some (.cells Z 66 (0,0))):=(hk3.block _ (by simp;omega)).trans ((Below.heap_alloc _ _ _ hs4).trans HZ.out)
 have hb3:Below w.heap.size w w3:=(hb0.alloc (by omega) _).trans (hk3.mono (by simp;omega))
 clear hk3
 go_wp2_with(refine wpList_store_row rfl 66 _ _ rfl _ _ rfl rfl 66 Z (HZ3.out) hD.out.info (HZS.out.trans hD.out.size.symm) hD.out.ones ?_)
 exact bodyPost_ret (v:=.agg D) (results_cell_row results14 _ _ _ 66 D (0,0) _ rfl (setRow_heap _ _ _ _ _ _ (HZ3.out)) underlying66 rfl hD.out.info) rfl ⟨rfl,zh (hb3) (by simp) _⟩
end Go.Proofs.YtpiohehijkpghabGreatDoor
