/- The document's Step of a store: walked. -/
import Derived.Deep.Cut
import Derived.WalkSmall
import Derived.Test.YtpiohehijkpghabGreatDoorS06
import Derived.Test.YtpiohehijkpghabGreatDoorS03
import Derived.Test.YtpiohehijkpghabGreatDoorS05
set_option maxRecDepth 20000
set_option maxHeartbeats 8000000
set_option linter.unusedVariables false
open Go.Proofs.Tryz
namespace Go.Proofs.YtpiohehijkpghabGreatDoor
open Go.RowKit
open Hy
theorem zjf{Φ:World->Prop}{W w:World}(q d k:Nat)(x y z:Array Value)(h n:Nat)(f:Nat->Int)(r1:W.heap[q]?=some (.cells x 27 (0,0)))(r2:W.heap[k]?=some (.cells y 64 (0,0)))(r3:W.heap[d]?=some (.cells z 66 (0,0)))(b:Below w.heap.size w W)(r4:Fr W w.heap.size h n f)
  (hh:∀W:World,Hid (W.heap[q]?=some (.cells x 27 (0,0)))->Hid (W.heap[k]?=some (.cells y 64 (0,0)))->Hid (W.heap[d]?=some (.cells z 66 (0,0)))->Below w.heap.size w W->Hid (Fr W w.heap.size h n f)->Φ W):Φ W:=hh W r1 r2 r3 b r4
theorem znQ(H:Array Value)(pc:Int)(p:Option Addr)(n c:Nat)(w:World)(X M I N NX TH A B R0 PN:Int)(rd s1 s2:Nat)(kk data:Int)(f':Nat->Int)(b0:0<=B)(b1:B<=4294967295)(q:QB H pc p n c w X M I N NX TH A B R0 PN rd s1 s2)
  (K:(M=16/\Hid (kk=1)/\Hid (data=B%256)/\(∀W,Calls prog 31 #[.int .i64 16,.bool true] W fun e w'=>e=.returned (.int .i64 1)/\w'=W)/\∀W,Calls prog 32 #[.int .i64 8] W fun e w'=>e=.returned (.int .i64 256)/\w'=W)\/
   (M=17/\Hid (kk=2)/\Hid (data=B%65536)/\(∀W,Calls prog 31 #[.int .i64 17,.bool true] W fun e w'=>e=.returned (.int .i64 2)/\w'=W)/\∀W,Calls prog 32 #[.int .i64 16] W fun e w'=>e=.returned (.int .i64 65536)/\w'=W)\/
   (M=18/\Hid (kk=4)/\Hid (data=B)/\(∀W,Calls prog 31 #[.int .i64 18,.bool true] W fun e w'=>e=.returned (.int .i64 4)/\w'=W)))
  (CM:∀W,Below w.heap.size w W->Calls prog 30 #[.slice p n c,.int .i64 M,.int .u32 TH,.int .u32 B] W fun e w'=>(∃h cap,e=.returned (.tuple #[.slice (some ⟨h,0,none⟩) n cap,.bool true])/\n<=cap/\Fr w' W.heap.size h n f')/\Below W.heap.size W w'):
  Calls prog 14 #[.agg H,.slice p n c] w fun e w'=>(∃D h cap,e=.returned (.agg D)/\Did D (ccs pc NX 0 0 0 0 TH kk data false 0) (H.setIfInBounds 32 (.int .u32 NX)) (some ⟨h,0,none⟩) n cap/\n<=cap/\Fr w' w.heap.size h n f')/\Below w.heap.size w w':=by
 obtain⟨hH,hO,h32,h33,h34,hA,hB,hR,l1,l2,lr,i0,i1,t0,t1,CL,CD,CO,CN,CT,CS⟩:=q
 have HH:Hid (H.size=35):=hH
 have HO:Hid (Ones H):=hO
 clear hH hO
 go_enter func14,ntmps14
 go_wp2_with fail
 refine(CL _ (((Below.refl _ _).alloc (Nat.le_refl _) _).alloc (by simp) _)).mono ?_
 rintro e w' ⟨rfl,rfl⟩
 go_wp2_with fail
 refine(CD _).mono ?_
 rintro e w2 ⟨rfl,hk⟩
 have hs2:=hk.size
 simp at hs2
 have hrow:w2.heap[w.heap.size]?=some (.cells H 27 (0,0)):=(hk.block _ (by simp;omega)).trans (heap_alloc2_old _ _ _)
 obtain⟨Z,hZ,hres⟩:∃Z:Array Value,Z.size=47/\w2.heap[w.heap.size+1]?=some (.cells Z 66 (0,0)):=⟨_,rfl,(hk.block _ (by simp)).trans (heap_alloc2_new _ _ _)⟩
 have HZS:Hid (Z.size=47):=hZ
 have hb0:Below w.heap.size w w2:=(((Below.refl _ _).alloc (Nat.le_refl _) _).alloc (by simp) _).trans (hk.mono (by simp;omega))
 have k32:=(cell_of_row w2 w.heap.size 32 _ _ _ hrow).trans h32
 have k33:=(cell_of_row w2 w.heap.size 33 _ _ _ hrow).trans h33
 have kA:=(cell_of_row w2 w.heap.size s1 _ _ _ hrow).trans hA
 have kB:=(cell_of_row w2 w.heap.size s2 _ _ _ hrow).trans hB
 have kR:=(cell_of_row w2 w.heap.size rd _ _ _ hrow).trans hR
 have kz:∀j,w2.frozen? ⟨w.heap.size,j,none⟩=false:=fun j=>frozen_of_row _ _ j _ _ hrow
 have HR:Hid (w2.heap[w.heap.size]?=some (.cells H 27 (0,0))):=hrow
 have HZ:Hid (w2.heap[w.heap.size+1]?=some (.cells Z 66 (0,0))):=hres
 have hs3:w.heap.size<w2.heap.size:=by omega
 have hs4:w.heap.size+1<w2.heap.size:=by omega
 clear hZ hk hrow hres hA hB hR h34 CL CD hs2
 go_wp2_with fail
 refine(CO _).mono ?_
 rintro e w' ⟨rfl,rfl⟩
 go_wp2_with fail
 refine(CN _).mono ?_
 rintro e w' ⟨rfl,rfl⟩
 go_wp2_with fail
 refine(CT _).mono ?_
 rintro e w' ⟨rfl,rfl⟩
 refine or3 K (fun K=>?k0) (fun K=>?k1) (fun K=>?k2)
 case' k0=>obtain⟨rfl,hkk,hda,CZ,CQ⟩:=K
 case' k1=>obtain⟨rfl,hkk,hda,CZ,CQ⟩:=K
 case' k2=>obtain⟨rfl,hkk,hda,CZ⟩:=K
 all_goals(
  go_wp2_with fail
  refine(CM _ ((hb0.alloc (by omega) _).alloc (by simp;omega) _)).mono ?_
  rintro e w3 ⟨⟨h,cap,rfl,hcap,hF⟩,hk3⟩
  have hs5:=hk3.size
  simp at hs5
  have ri:=(hk3.block _ (by simp;omega)).trans (heap_alloc2_old _ _ _)
  have rc:w3.heap[w2.heap.size+1]?=some (.cells (ccs pc 0 0 0 0 0 0 0 0 false 0) 64 (0,0)):=(hk3.block _ (by simp)).trans (heap_alloc2_new _ _ _)
  have HR3:Hid (w3.heap[w.heap.size]?=some (.cells H 27 (0,0))):=(hk3.block _ (by simp;omega)).trans (qF HR.out _ _)
  have HZ3:Hid (w3.heap[w.heap.size+1]?=some (.cells Z 66 (0,0))):=(hk3.block _ (by simp;omega)).trans (qF HZ.out _ _)
  have hb3:Below w.heap.size w w3:=((hb0.alloc (by omega) _).alloc (by simp;omega) _).trans (hk3.mono (by simp;omega))
  have j0:=(cell_of_row w3 w2.heap.size 0 _ _ _ ri).trans rfl
  have j1:=(cell_of_row w3 w2.heap.size 1 _ _ _ ri).trans rfl
  have c0:=(cell_of_row w3 (w2.heap.size+1) 0 _ _ _ rc).trans rfl
  have c1:=(cell_of_row w3 (w2.heap.size+1) 1 _ _ _ rc).trans rfl
  have c2:=(cell_of_row w3 (w2.heap.size+1) 2 _ _ _ rc).trans rfl
  have c3:=(cell_of_row w3 (w2.heap.size+1) 3 _ _ _ rc).trans rfl
  have c4:=(cell_of_row w3 (w2.heap.size+1) 4 _ _ _ rc).trans rfl
  have c5:=(cell_of_row w3 (w2.heap.size+1) 5 _ _ _ rc).trans rfl
  have c6:=(cell_of_row w3 (w2.heap.size+1) 6 _ _ _ rc).trans rfl
  have c7:=(cell_of_row w3 (w2.heap.size+1) 7 _ _ _ rc).trans rfl
  have c8:=(cell_of_row w3 (w2.heap.size+1) 8 _ _ _ rc).trans rfl
  have c9:=(cell_of_row w3 (w2.heap.size+1) 9 _ _ _ rc).trans rfl
  have c10:=(cell_of_row w3 (w2.heap.size+1) 10 _ _ _ rc).trans rfl
  have cz:∀j,w3.frozen? ⟨w2.heap.size+1,j,none⟩=false:=fun j=>frozen_of_row _ _ j _ _ rc
  have m32:=(cell_of_row w3 w.heap.size 32 _ _ _ HR3.out).trans h32
  have m33:=(cell_of_row w3 w.heap.size 33 _ _ _ HR3.out).trans h33
  have mz:∀j,w3.frozen? ⟨w.heap.size,j,none⟩=false:=fun j=>frozen_of_row _ _ j _ _ HR3.out
  have RC:Hid (w3.heap[w2.heap.size+1]?=some (.cells (ccs pc 0 0 0 0 0 0 0 0 false 0) 64 (0,0))):=rc
  have HF:Hid (Fr w3 ((w2.alloc _).alloc _).heap.size h n f'):=hF
  have hs6:w.heap.size<w3.heap.size:=by omega
  have hs7:w2.heap.size<w3.heap.size:=by omega
  have hs8:w2.heap.size+1<w3.heap.size:=by omega
  obtain⟨D,hD⟩:∃D,Hid (Did D (ccs pc NX 0 0 0 0 TH kk data false 0) (H.setIfInBounds 32 (.int .u32 NX)) (some ⟨h,0,none⟩) n cap):=⟨_,⟨rfl,rfl,by simp[HH.out],qZ _ _ _ _ _ _ _ _ _ _ _,HO.out.set _ _ (by simp[Value.oneCell'])⟩⟩
  clear hF ri rc hk3 k32 k33 kA kB kR kz CM h32 h33
  go_wp2_with fail
  refine(CZ _).mono ?_
  rintro e w' ⟨rfl,hw⟩
  rw[hw]
  clear hw
  try(
   have CQ:=CQ
   go_wp2_with fail
   refine(CQ _).mono ?_
   rintro e w' ⟨rfl,hw⟩
   rw[hw]
   clear hw)
  have hh:=HF.out.base
  simp at hh
  go_upto_region 69 with fail
  refine zjf (w:=w) (Φ:=fun W=>Code.wp _ _ _ _ W) w.heap.size (w.heap.size+1) (w2.heap.size+1) (H.setIfInBounds 32 (.int .u32 NX)) (ccs pc NX 0 0 0 0 TH kk data false 0) Z h n f' ?_ ?_ ?_ ?_ ?_ ?_
  ·refine heap_setCell_same _ _ _ _ _ _ ?_
   repeat refine(heap_setCell_other _ _ _ _ (by simp;omega)).trans ?_
   exact HR3.out
  ·rw[hkk.out,hda.out]
   refine(heap_setCell_other _ _ _ _ (by simp;omega)).trans ?_
   first|(have _h:=CQ;exact(heap_setCell_same _ _ _ _ _ _ (heap_setCell_same _ _ _ _ _ _ (heap_setCell_same _ _ _ _ _ _ (heap_setCell_same _ _ _ _ _ _ (heap_setCell_same _ _ _ _ _ _ (heap_setCell_same _ _ _ _ _ _ RC.out)))))))|exact(heap_setCell_same _ _ _ _ _ _ (heap_setCell_same _ _ _ _ _ _ (heap_setCell_same _ _ _ _ _ _ (heap_setCell_same _ _ _ _ _ _ (heap_setCell_same _ _ _ _ _ _ RC.out)))))
  ·refine(heap_setCell_other _ _ _ _ (by simp)).trans ?_
   repeat refine(heap_setCell_other _ _ _ _ (by simp;omega)).trans ?_
   exact HZ3.out
  ·refine Below.setCell ?_ (by simp) _
   repeat refine Below.setCell ?_ (by simp;omega) _
   exact hb3
  ·refine HF.out.moved (by omega) ?_ (by simp)
   repeat refine(heap_setCell_other _ _ _ _ (by simp;omega)).trans ?_
   rfl
  intro w5 r34 r38 r42 b5 f5
  clear hb3 hb0 HF RC HR3 HZ3 HR HZ c0 c1 c2 c3 c4 c5 c6 c7 c8 c9 c10 m32 m33 mz cz j0 j1
  go_wp2_with(first|(refine wpList_load_row rfl 27 _ rfl _ rfl 27 _ (0,0) _ (r34.out) underlying27 rfl (qi hD.out.hH) ?_)|(refine wpList_load_row rfl 64 _ rfl _ rfl 64 _ (0,0) _ r38.out underlying64 rfl za ?_)|(refine qf rfl 66 0 1 2 _ _ _ rfl _ _ _ rfl rfl rfl _ hD.out.built ?_)|(refine wpList_store_row rfl 66 _ _ rfl _ _ rfl rfl 66 Z (r42.out) hD.out.info (HZS.out.trans hD.out.size.symm) hD.out.ones ?_))
  exact bodyPost_ret (v:=.agg D) (results_cell_row results14 _ _ _ 66 D (0,0) _ rfl (setRow_heap _ _ _ _ _ _ r42.out) underlying66 rfl hD.out.info) rfl ⟨⟨D,h,cap,rfl,hD.out,hcap,f5.out.moved (by omega) (setRow_other _ _ _ _ (by omega)) (by simp)⟩,zh b5 (by simp) _⟩)
end Go.Proofs.YtpiohehijkpghabGreatDoor
