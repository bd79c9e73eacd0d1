/- The program's Do, of loads, stores, FENCE, ECALL and EBREAK: walked. -/
import Derived.Deep.DeepCutAuto
import Derived.Deep.DeepMust
import Derived.OpenShut
import Derived.Test.YtpiohehijkpghacGreatDoorG08
import Derived.Test.YtpiohehijkpghacGreatDoorG01
import Derived.Test.YtpiohehijkpghacGreatDoorG09
set_option maxRecDepth 20000
set_option maxHeartbeats 4000000
namespace Go.Proofs.YtpiohehijkpghacGreatDoor
open Go.RowKit
open Hy
set_option linter.unusedVariables false
attribute [local go_sem ↓] Go.wp_at_zero Go.wp_at_succ
theorem wrap_i64' (n:Int):IntKind.i64.wrap n=wrap64 n:=by
 simp[IntKind.wrap,IntKind.bits,IntKind.signed,wrap64]
 try omega
theorem res5 {w w':World} {o:Obj} {t:TypeId} (hk:Below ((w.alloc o).alloc (.cells #[.int .i64 0,.int .i64 0,.int .i64 0,.int .i64 0,.int .i32 0] t)).drew.heap.size ((w.alloc o).alloc (.cells #[.int .i64 0,.int .i64 0,.int .i64 0,.int .i64 0,.int .i32 0] t)).drew w'):
  w'.cell? ⟨w.heap.size+1,0,none⟩=some (.int .i64 0)∧w'.cell? ⟨w.heap.size+1,1,none⟩=some (.int .i64 0)∧w'.cell? ⟨w.heap.size+1,2,none⟩=some (.int .i64 0)∧w'.cell? ⟨w.heap.size+1,3,none⟩=some (.int .i64 0)∧w'.cell? ⟨w.heap.size+1,4,none⟩=some (.int .i32 0)
  ∧w'.frozen? ⟨w.heap.size+1,0,none⟩=false∧w'.frozen? ⟨w.heap.size+1,1,none⟩=false∧w'.frozen? ⟨w.heap.size+1,2,none⟩=false∧w'.frozen? ⟨w.heap.size+1,3,none⟩=false∧w'.frozen? ⟨w.heap.size+1,4,none⟩=false:=by
 obtain⟨hc,hf⟩:=bcell hk
 simp only[hc _ _ (show w.heap.size+1<_ by simp),hf _ _ (show w.heap.size+1<_ by simp)]
 simp[go_sem]
theorem read_any (c:Nat→Int) (n x:Int) (x0:0≤x) (x1:x≤4294967295)
  (hb:∀j,1≤j→0≤c j∧c j≤31) (w:World):
  Calls Tryz.prog 38 #[fv c,.int .i64 n,.int .u32 x] w fun e w'=>e=.returned (.agg #[.int .i64 n,.int .i64 (rrg x 128 (c 1)),.int .i64 (rrg x 32768 (c 2)),.int .i64 (rrg x 1048576 (c 3)),.int .i32 (rim c x)])∧Below w.heap.size w w':=by
 go_enter Tryz.func38,Tryz.ntmps38
 go_wp2_with fail
 go_region_held3 (fun w'=>w'.cell? ⟨w.heap.size,0,none⟩=some (.int .u32 (c 0))∧w'.cell? ⟨w.heap.size,1,none⟩=some (.int .u32 (c 1))∧w'.cell? ⟨w.heap.size,2,none⟩=some (.int .u32 (c 2))∧w'.cell? ⟨w.heap.size,3,none⟩=some (.int .u32 (c 3))∧w'.cell? ⟨w.heap.size,4,none⟩=some (.int .u32 (c 4))∧w'.cell? ⟨w.heap.size,5,none⟩=some (.int .u32 (c 5))∧w'.cell? ⟨w.heap.size,6,none⟩=some (.int .u32 (c 6))∧w'.cell? ⟨w.heap.size,7,none⟩=some (.int .u32 (c 7))∧w'.cell? ⟨w.heap.size,8,none⟩=some (.int .u32 (c 8))∧w'.cell? ⟨w.heap.size,9,none⟩=some (.int .u32 (c 9))∧w'.cell? ⟨w.heap.size,10,none⟩=some (.int .u32 (c 10))∧w'.cell? ⟨w.heap.size,11,none⟩=some (.int .u32 (c 11))∧w'.cell? ⟨w.heap.size,12,none⟩=some (.int .u32 (c 12))∧w'.cell? ⟨w.heap.size,13,none⟩=some (.int .u32 (c 13))∧w'.cell? ⟨w.heap.size,14,none⟩=some (.int .u32 (c 14))∧w'.cell? ⟨w.heap.size,15,none⟩=some (.int .u32 (c 15))∧w'.cell? ⟨w.heap.size,16,none⟩=some (.int .u32 (c 16))) (first|go_keep|(obtain⟨hc,hf⟩:=bcell hk;refine⟨?_,?_,?_,?_,?_,?_,?_,?_,?_,?_,?_,?_,?_,?_,?_,?_,?_⟩<;>(rw[hc _ _ (by simp;omega)];go_keep))) ((go_at_call 69;refine(readImm_any c x x0 x1 hb _).mono ?_;rintro e w' ⟨rfl,hk⟩;obtain⟨r0,r1,r2,r3,r4,z0,z1,z2,z3,z4⟩:=res5 hk))
 have hs:=hk.size
 simp at hs
 go_wp2
 refine bodyPost_ret (v:=.agg #[.int .i64 n,.int .i64 (rrg x 128 (c 1)),.int .i64 (rrg x 32768 (c 2)),.int .i64 (rrg x 1048576 (c 3)),.int .i32 (rim c x)]) ?_ rfl ⟨rfl,?_⟩
 ·simp[results,Tryz.results38,go_sem,rrg,r0,r1,r2,r3,r4]
  exact⟨wrap_i64' _,wrap_i64' _,wrap_i64' _⟩
 ·have hbase:Below w.heap.size w w':=(((Below.refl _ _).alloc (Nat.le_refl _) _).alloc (by simp) _).drew.trans (hk.mono (by simp;omega))
  repeat(first|exact hbase|refine Below.drew ?_|refine Below.setCell ?_ (by simp) _)
end Go.Proofs.YtpiohehijkpghacGreatDoor
namespace Go.Proofs.YtpiohehijkpghacGreatDoor
open Go.RowKit
open Hy
set_option linter.unusedVariables false
def Tab (w:World):Prop:=∀i,i<153→w.cell? ⟨0,i,none⟩=some (.int .u32 (ftab.getD i 0))
theorem Tab.size {w:World} (h:Tab w):0<w.heap.size:=World.block_lt_of_cell? _ _ (h 0 (by omega))
theorem Tab.below {w w':World} {B:Nat} (h:Tab w) (hb:Below B w w') (hB:0<B):Tab w':=
 fun i hi=>(hb.cell (p:=⟨0,i,none⟩) hB).trans (h i hi)
theorem Tab.alloc {w:World} (h:Tab w) (o:Obj):Tab (w.alloc o):=
 h.below ((Below.refl w.heap.size w).alloc (Nat.le_refl _) o) h.size
theorem Tab.form {w:World} (h:Tab w) (f:Nat) (hf:f<9) (j:Nat) (hj:j<17):w.cell? ⟨0,f*17+j,none⟩=some (.int .u32 (fm f j)):=by
 rw[h _ (by omega),fm,if_pos hj]
theorem ix34 (n:Nat) (hn:n<49) (w:World):(Instr.index 107 (.agg kc) (.int .i64 (n:Int))).run Tryz.prog w=.ok (.agg #[.int .i64 (kn n:Int),.int .u32 (kb n)]) w:=
 match n,hn with
 |0,_=>by kernel_rfl
 |1,_=>by kernel_rfl
 |2,_=>by kernel_rfl
 |3,_=>by kernel_rfl
 |4,_=>by kernel_rfl
 |5,_=>by kernel_rfl
 |6,_=>by kernel_rfl
 |7,_=>by kernel_rfl
 |8,_=>by kernel_rfl
 |9,_=>by kernel_rfl
 |10,_=>by kernel_rfl
 |11,_=>by kernel_rfl
 |12,_=>by kernel_rfl
 |13,_=>by kernel_rfl
 |14,_=>by kernel_rfl
 |15,_=>by kernel_rfl
 |16,_=>by kernel_rfl
 |17,_=>by kernel_rfl
 |18,_=>by kernel_rfl
 |19,_=>by kernel_rfl
 |20,_=>by kernel_rfl
 |21,_=>by kernel_rfl
 |22,_=>by kernel_rfl
 |23,_=>by kernel_rfl
 |24,_=>by kernel_rfl
 |25,_=>by kernel_rfl
 |26,_=>by kernel_rfl
 |27,_=>by kernel_rfl
 |28,_=>by kernel_rfl
 |29,_=>by kernel_rfl
 |30,_=>by kernel_rfl
 |31,_=>by kernel_rfl
 |32,_=>by kernel_rfl
 |33,_=>by kernel_rfl
 |34,_=>by kernel_rfl
 |35,_=>by kernel_rfl
 |36,_=>by kernel_rfl
 |37,_=>by kernel_rfl
 |38,_=>by kernel_rfl
 |39,_=>by kernel_rfl
 |40,_=>by kernel_rfl
 |41,_=>by kernel_rfl
 |42,_=>by kernel_rfl
 |43,_=>by kernel_rfl
 |44,_=>by kernel_rfl
 |45,_=>by kernel_rfl
 |46,_=>by kernel_rfl
 |47,_=>by kernel_rfl
 |48,_=>by kernel_rfl
 |k+49,h=>by omega
theorem below_drewN {B:Nat} {a w:World} (h:Below B a w) (n:Nat):Below B a (w.drewN n):=⟨h.os,h.tape,h.output,h.size,h.block⟩
theorem keep5 {wr w1:World} {o:Obj} {nq B:Nat} (hk:Below ((wr.alloc o).drewN nq).heap.size ((wr.alloc o).drewN nq) w1) (hB:B<wr.heap.size)
  (r0:wr.cell? ⟨B,0,none⟩=some (.int .i64 0)) (r1:wr.cell? ⟨B,1,none⟩=some (.int .i64 0)) (r2:wr.cell? ⟨B,2,none⟩=some (.int .i64 0)) (r3:wr.cell? ⟨B,3,none⟩=some (.int .i64 0)) (r4:wr.cell? ⟨B,4,none⟩=some (.int .i32 0))
  (z:∀j,wr.frozen? ⟨B,j,none⟩=false):
  w1.cell? ⟨B,0,none⟩=some (.int .i64 0)∧w1.cell? ⟨B,1,none⟩=some (.int .i64 0)∧w1.cell? ⟨B,2,none⟩=some (.int .i64 0)∧w1.cell? ⟨B,3,none⟩=some (.int .i64 0)∧w1.cell? ⟨B,4,none⟩=some (.int .i32 0)∧∀j,w1.frozen? ⟨B,j,none⟩=false:=by
 have hb:Below wr.heap.size wr w1:=(below_drewN ((Below.refl _ _).alloc (Nat.le_refl _) o) nq).trans (hk.mono (by simp))
 obtain⟨hc,hf⟩:=bcell hb
 exact⟨(hc _ _ hB).trans r0,(hc _ _ hB).trans r1,(hc _ _ hB).trans r2,(hc _ _ hB).trans r3,(hc _ _ hB).trans r4,fun j=>(hf _ _ hB).trans (z j)⟩
abbrev insv (n:Nat) (x:Int):Value:=iv n (rrg x 128 (fm (kn n) 1)) (rrg x 32768 (fm (kn n) 2)) (rrg x 1048576 (fm (kn n) 3)) (rim (fm (kn n)) x)
theorem Decode_any (x:Int) (x0:0≤x) (x1:x≤4294967295) (w:World) (ht:Tab w):
  Calls Tryz.prog 19 #[.int .u32 x] w fun e w'=>((∃n:Nat,1≤n∧n≤48∧hit n x=true∧(∀m,1≤m→m<n→hit m x=false)∧e=.returned (.tuple #[insv n x,.bool true]))∨((∀m,1≤m→m≤48→hit m x=false)∧e=.returned (.tuple #[iv 0 0 0 0 0,.bool false])))∧Below w.heap.size w w':=by
 go_enter Tryz.func19,Tryz.ntmps19
 go_wp2_with(go_at_call 37;refine(kinds_any _).mono ?_;rintro e w1 ⟨rfl,hk⟩)
 go_loopw [4,5,7] (fun o p i wl=>∃n:Nat,n≤49∧i=.int .i64 n∧(∀m,1≤m→m<n→hit m x=false)∧Below (w.heap.size+1) (w.alloc (.cells #[.int .i64 0,.int .i64 0,.int .i64 0,.int .i64 0,.int .i32 0] 78)) wl∧w.heap.size+1≤wl.heap.size) (fun _ _ k _=>49-(intOf k).toNat)
 case atStart=>
  have:=hk.size
  simp at this
  exact⟨0,by omega,rfl,fun m h1 h2=>by omega,hk.mono (by simp),this⟩
 case round=>
  clear hk w1
  obtain⟨n,hn,rfl,hno,hbe,hsz⟩:=hrel
  have htr:Tab wr:=(ht.alloc _).below hbe (by have:=ht.size;omega)
  have hbig:=htr.size
  obtain⟨hc,hf⟩:=bcell hbe
  have r0:wr.cell? ⟨w.heap.size,0,none⟩=some (.int .i64 0):=by rw[hc _ _ (by omega)];simp[go_sem]
  have r1:wr.cell? ⟨w.heap.size,1,none⟩=some (.int .i64 0):=by rw[hc _ _ (by omega)];simp[go_sem]
  have r2:wr.cell? ⟨w.heap.size,2,none⟩=some (.int .i64 0):=by rw[hc _ _ (by omega)];simp[go_sem]
  have r3:wr.cell? ⟨w.heap.size,3,none⟩=some (.int .i64 0):=by rw[hc _ _ (by omega)];simp[go_sem]
  have r4:wr.cell? ⟨w.heap.size,4,none⟩=some (.int .i32 0):=by rw[hc _ _ (by omega)];simp[go_sem]
  have z:∀j,wr.frozen? ⟨w.heap.size,j,none⟩=false:=by intro j;rw[hf _ _ (by omega)];simp[go_sem]
  clear hc hf
  have h0:=ht.size
  have hw0:0<wr.heap.size:=by omega
  by_cases hlt:n<49
  ·by_cases hn0:n=0
   ·subst hn0
    have ix:∀w,(Instr.index 107 (.agg kc) (.int .i64 0)).run Tryz.prog w=.ok (.agg #[.int .i64 0,.int .u32 0]) w:=fun w=>ix34 0 (by omega) w
    go_wp2_with fail
    go_quiet(fail)
    go_wp2_with fail
    refine⟨⟨1,by omega,by go_num,fun m h1 h2=>by omega,?_,?_⟩,by simp[intOf]⟩
    ·exact below_drewN (hbe.alloc hsz _) _
    ·simp;omega
   ·have ix:=ix34 n hlt
    obtain⟨hF9,_,hF1⟩:=kn_lt n hlt
    obtain⟨F,hF⟩:∃F,F=kn n:=⟨_,rfl⟩
    have hF1':=hF1 (by omega)
    clear hF1
    rw[←hF]at ix hF9 hF1'
    have HF:Hid (F=kn n):=hF
    clear hF
    have hne:((F:Int) != 0)=true:=by simp;omega
    have b1:(0:Int)≤(F:Int):=by omega
    have b2:(F:Int)<9:=by omega
    have f0':wr.cell? ⟨0,F*17,none⟩=some (.int .u32 (fm F 0)):=htr.form F hF9 0 (by omega)
    have f1:=htr.form F hF9 1 (by omega)
    have f2:=htr.form F hF9 2 (by omega)
    have f3:=htr.form F hF9 3 (by omega)
    have f4:=htr.form F hF9 4 (by omega)
    have f5:=htr.form F hF9 5 (by omega)
    have f6:=htr.form F hF9 6 (by omega)
    have f7:=htr.form F hF9 7 (by omega)
    have f8:=htr.form F hF9 8 (by omega)
    have f9:=htr.form F hF9 9 (by omega)
    have f10:=htr.form F hF9 10 (by omega)
    have f11:=htr.form F hF9 11 (by omega)
    have f12:=htr.form F hF9 12 (by omega)
    have f13:=htr.form F hF9 13 (by omega)
    have f14:=htr.form F hF9 14 (by omega)
    have f15:=htr.form F hF9 15 (by omega)
    have f16:=htr.form F hF9 16 (by omega)
    by_cases hh:hit n x=true
    ·have hh':(bits .and .u32 x (fm F 0)==kb n)=true:=by rw[HF.out];exact hh
     go_wp2_with fail
     go_quiet(fail)
     have hbe2:=below_drewN (hbe.alloc hsz (.cells #[.int .i64 (F:Int),.int .u32 (kb n)] 106)) nq
     go_wp2_with(go_at_call 38;refine(read_any (fm F) _ _ x0 x1 (fm_bound F hF9) _).mono ?_;rintro e w1 ⟨rfl,hk⟩;obtain⟨q0,q1,q2,q3,q4,y⟩:=keep5 hk (by omega) r0 r1 r2 r3 r4 z)
     replace hbe2:=hbe2.trans (hk.mono (by simp;omega))
     refine bodyPost_ret (v:=.tuple #[insv n x,.bool true]) ?_ rfl ⟨.inl ⟨n,by omega,by omega,hh,hno,rfl⟩,?_⟩
     ·simp[results,Tryz.results19,go_sem,q0,q1,q2,q3,q4,HF.out]
     ·have hbase:Below w.heap.size w w1:=((Below.refl _ _).alloc (Nat.le_refl _) _).trans (hbe2.mono (by omega))
      repeat(first|exact hbase|refine Below.setCell ?_ (by simp) _)
    ·have hh':(bits .and .u32 x (fm F 0)==kb n)=false:=by rw[HF.out];simpa[hit]using hh
     clear f1 f2 f3 f4 f5 f6 f7 f8 f9 f10 f11 f12 f13 f14 f15 f16
     go_wp2_with fail
     go_quiet(fail)
     go_wp2_with fail
     refine⟨⟨n+1,by omega,by go_num,?_,below_drewN (hbe.alloc hsz _) _,by simp;omega⟩,by simp[intOf];omega⟩
     intro m h1 h2
     by_cases e:m=n
     ·subst e;simpa using hh
     ·exact hno m h1 (by omega)
  ·obtain rfl:n=49:=by omega
   go_wp2_with fail
   refine bodyPost_ret (v:=.tuple #[iv 0 0 0 0 0,.bool false]) ?_ rfl ⟨.inr ⟨fun m h1 h2=>hno m h1 (by omega),rfl⟩,?_⟩
   ·simp[results,Tryz.results19,go_sem,r0,r1,r2,r3,r4]
   ·have hbase:Below w.heap.size w wr:=((Below.refl _ _).alloc (Nat.le_refl _) _).trans (hbe.mono (by omega))
    repeat(first|exact hbase|refine Below.setCell ?_ (by simp) _)
end Go.Proofs.YtpiohehijkpghacGreatDoor
namespace Go.Proofs.YtpiohehijkpghacGreatDoor
open Go.RowKit
open Hy
set_option linter.unusedVariables false
attribute [local go_sem ↓] Go.wp_at_zero Go.wp_at_succ
def back (X:Int) (n:Nat) (rd rs1 rs2 imm:Int):Prop:=hit n X=true∧(∀k,1≤k→k<n→hit k X=false)∧rrg X 128 (fm (kn n) 1)=rd∧rrg X 32768 (fm (kn n) 2)=rs1∧rrg X 1048576 (fm (kn n) 3)=rs2∧rim (fm (kn n)) X=imm
end Go.Proofs.YtpiohehijkpghacGreatDoor
namespace Go.Proofs.YtpiohehijkpghacGreatDoor
open Go.RowKit
open Hy
set_option linter.unusedVariables false
set_option linter.unusedSimpArgs false
theorem hdLoad11 (pc:Int) (p:Option Addr) (n c:Nat) (w:World) (I A B V:Int) (ok:Bool) (rd s1 s2:Nat) (C:Array Value) (hC:Hid (C.size=11∧Ones C))
  (CM:∀W,Below w.heap.size w W→Calls Tryz.prog 98 #[.slice p n c,.int .i64 11,.int .u32 ((A+I)%4294967296)] W fun e w'=>e=.returned (.tuple #[.int .u32 V,.bool ok])∧w'=W)
  (CF:∀W,Calls Tryz.prog 88 #[iv 11 rd s1 s2 I,.int .u32 pc,.int .u32 V,.bool ok] W fun e w'=>e=.returned (.agg C)∧Below W.heap.size W w') (a0:0≤A) (a1:A≤4294967295):
  Calls Tryz.prog 90 #[iv 11 rd s1 s2 I,.int .u32 pc,.int .u32 A,.int .u32 B,.slice p n c] w fun e w'=>e=.returned (.agg C)∧Below w.heap.size w w':=by
 go_enter Tryz.func90,Tryz.ntmps90
 go_wp2_with fail
 refine(CM _ (((Below.refl _ _).alloc (Nat.le_refl _) _).alloc (by simp) _)).mono ?_
 rintro e w' ⟨rfl,rfl⟩
 go_wp2_with fail
 refine(CF _).mono ?_
 rintro e w3 ⟨rfl,hk3⟩
 have HZ3:Hid (w3.heap[w.heap.size+1]?=some (.cells (ccs 0 0 0 0 0 0 0 0 0 false 0) 68 (0,0))):=(hk3.block _ (by simp)).trans (heap_alloc2_new _ _ _)
 have hb3:Below w.heap.size w w3:=(((Below.refl _ _).alloc (Nat.le_refl _) _).alloc (by simp) _).trans (hk3.mono (by simp;omega))
 clear hk3
 go_wp2_with(refine wpList_store_row rfl 68 _ _ rfl _ _ rfl rfl 68 (ccs 0 0 0 0 0 0 0 0 0 false 0) HZ3.out (size_commit.trans (congrArg some hC.out.1.symm)) hC.out.1.symm hC.out.2 ?_)
 exact bodyPost_ret (v:=.agg C) (results_cell_row Tryz.results90 _ _ _ 68 _ (0,0) _ rfl (setRow_heap _ _ _ _ _ _ HZ3.out) Tryz.underlying68 rfl (size_commit.trans (congrArg some hC.out.1.symm))) rfl ⟨rfl,below_row hb3 (by omega) _⟩
theorem hdLoad12 (pc:Int) (p:Option Addr) (n c:Nat) (w:World) (I A B V:Int) (ok:Bool) (rd s1 s2:Nat) (C:Array Value) (hC:Hid (C.size=11∧Ones C))
  (CM:∀W,Below w.heap.size w W→Calls Tryz.prog 98 #[.slice p n c,.int .i64 12,.int .u32 ((A+I)%4294967296)] W fun e w'=>e=.returned (.tuple #[.int .u32 V,.bool ok])∧w'=W)
  (CF:∀W,Calls Tryz.prog 88 #[iv 12 rd s1 s2 I,.int .u32 pc,.int .u32 V,.bool ok] W fun e w'=>e=.returned (.agg C)∧Below W.heap.size W w') (a0:0≤A) (a1:A≤4294967295):
  Calls Tryz.prog 90 #[iv 12 rd s1 s2 I,.int .u32 pc,.int .u32 A,.int .u32 B,.slice p n c] w fun e w'=>e=.returned (.agg C)∧Below w.heap.size w w':=by
 go_enter Tryz.func90,Tryz.ntmps90
 go_wp2_with fail
 refine(CM _ (((Below.refl _ _).alloc (Nat.le_refl _) _).alloc (by simp) _)).mono ?_
 rintro e w' ⟨rfl,rfl⟩
 go_wp2_with fail
 refine(CF _).mono ?_
 rintro e w3 ⟨rfl,hk3⟩
 have HZ3:Hid (w3.heap[w.heap.size+1]?=some (.cells (ccs 0 0 0 0 0 0 0 0 0 false 0) 68 (0,0))):=(hk3.block _ (by simp)).trans (heap_alloc2_new _ _ _)
 have hb3:Below w.heap.size w w3:=(((Below.refl _ _).alloc (Nat.le_refl _) _).alloc (by simp) _).trans (hk3.mono (by simp;omega))
 clear hk3
 go_wp2_with(refine wpList_store_row rfl 68 _ _ rfl _ _ rfl rfl 68 (ccs 0 0 0 0 0 0 0 0 0 false 0) HZ3.out (size_commit.trans (congrArg some hC.out.1.symm)) hC.out.1.symm hC.out.2 ?_)
 exact bodyPost_ret (v:=.agg C) (results_cell_row Tryz.results90 _ _ _ 68 _ (0,0) _ rfl (setRow_heap _ _ _ _ _ _ HZ3.out) Tryz.underlying68 rfl (size_commit.trans (congrArg some hC.out.1.symm))) rfl ⟨rfl,below_row hb3 (by omega) _⟩
theorem hdLoad13 (pc:Int) (p:Option Addr) (n c:Nat) (w:World) (I A B V:Int) (ok:Bool) (rd s1 s2:Nat) (C:Array Value) (hC:Hid (C.size=11∧Ones C))
  (CM:∀W,Below w.heap.size w W→Calls Tryz.prog 98 #[.slice p n c,.int .i64 13,.int .u32 ((A+I)%4294967296)] W fun e w'=>e=.returned (.tuple #[.int .u32 V,.bool ok])∧w'=W)
  (CF:∀W,Calls Tryz.prog 88 #[iv 13 rd s1 s2 I,.int .u32 pc,.int .u32 V,.bool ok] W fun e w'=>e=.returned (.agg C)∧Below W.heap.size W w') (a0:0≤A) (a1:A≤4294967295):
  Calls Tryz.prog 90 #[iv 13 rd s1 s2 I,.int .u32 pc,.int .u32 A,.int .u32 B,.slice p n c] w fun e w'=>e=.returned (.agg C)∧Below w.heap.size w w':=by
 go_enter Tryz.func90,Tryz.ntmps90
 go_wp2_with fail
 refine(CM _ (((Below.refl _ _).alloc (Nat.le_refl _) _).alloc (by simp) _)).mono ?_
 rintro e w' ⟨rfl,rfl⟩
 go_wp2_with fail
 refine(CF _).mono ?_
 rintro e w3 ⟨rfl,hk3⟩
 have HZ3:Hid (w3.heap[w.heap.size+1]?=some (.cells (ccs 0 0 0 0 0 0 0 0 0 false 0) 68 (0,0))):=(hk3.block _ (by simp)).trans (heap_alloc2_new _ _ _)
 have hb3:Below w.heap.size w w3:=(((Below.refl _ _).alloc (Nat.le_refl _) _).alloc (by simp) _).trans (hk3.mono (by simp;omega))
 clear hk3
 go_wp2_with(refine wpList_store_row rfl 68 _ _ rfl _ _ rfl rfl 68 (ccs 0 0 0 0 0 0 0 0 0 false 0) HZ3.out (size_commit.trans (congrArg some hC.out.1.symm)) hC.out.1.symm hC.out.2 ?_)
 exact bodyPost_ret (v:=.agg C) (results_cell_row Tryz.results90 _ _ _ 68 _ (0,0) _ rfl (setRow_heap _ _ _ _ _ _ HZ3.out) Tryz.underlying68 rfl (size_commit.trans (congrArg some hC.out.1.symm))) rfl ⟨rfl,below_row hb3 (by omega) _⟩
theorem hdLoad14 (pc:Int) (p:Option Addr) (n c:Nat) (w:World) (I A B V:Int) (ok:Bool) (rd s1 s2:Nat) (C:Array Value) (hC:Hid (C.size=11∧Ones C))
  (CM:∀W,Below w.heap.size w W→Calls Tryz.prog 98 #[.slice p n c,.int .i64 14,.int .u32 ((A+I)%4294967296)] W fun e w'=>e=.returned (.tuple #[.int .u32 V,.bool ok])∧w'=W)
  (CF:∀W,Calls Tryz.prog 88 #[iv 14 rd s1 s2 I,.int .u32 pc,.int .u32 V,.bool ok] W fun e w'=>e=.returned (.agg C)∧Below W.heap.size W w') (a0:0≤A) (a1:A≤4294967295):
  Calls Tryz.prog 90 #[iv 14 rd s1 s2 I,.int .u32 pc,.int .u32 A,.int .u32 B,.slice p n c] w fun e w'=>e=.returned (.agg C)∧Below w.heap.size w w':=by
 go_enter Tryz.func90,Tryz.ntmps90
 go_wp2_with fail
 refine(CM _ (((Below.refl _ _).alloc (Nat.le_refl _) _).alloc (by simp) _)).mono ?_
 rintro e w' ⟨rfl,rfl⟩
 go_wp2_with fail
 refine(CF _).mono ?_
 rintro e w3 ⟨rfl,hk3⟩
 have HZ3:Hid (w3.heap[w.heap.size+1]?=some (.cells (ccs 0 0 0 0 0 0 0 0 0 false 0) 68 (0,0))):=(hk3.block _ (by simp)).trans (heap_alloc2_new _ _ _)
 have hb3:Below w.heap.size w w3:=(((Below.refl _ _).alloc (Nat.le_refl _) _).alloc (by simp) _).trans (hk3.mono (by simp;omega))
 clear hk3
 go_wp2_with(refine wpList_store_row rfl 68 _ _ rfl _ _ rfl rfl 68 (ccs 0 0 0 0 0 0 0 0 0 false 0) HZ3.out (size_commit.trans (congrArg some hC.out.1.symm)) hC.out.1.symm hC.out.2 ?_)
 exact bodyPost_ret (v:=.agg C) (results_cell_row Tryz.results90 _ _ _ 68 _ (0,0) _ rfl (setRow_heap _ _ _ _ _ _ HZ3.out) Tryz.underlying68 rfl (size_commit.trans (congrArg some hC.out.1.symm))) rfl ⟨rfl,below_row hb3 (by omega) _⟩
theorem hdLoad15 (pc:Int) (p:Option Addr) (n c:Nat) (w:World) (I A B V:Int) (ok:Bool) (rd s1 s2:Nat) (C:Array Value) (hC:Hid (C.size=11∧Ones C))
  (CM:∀W,Below w.heap.size w W→Calls Tryz.prog 98 #[.slice p n c,.int .i64 15,.int .u32 ((A+I)%4294967296)] W fun e w'=>e=.returned (.tuple #[.int .u32 V,.bool ok])∧w'=W)
  (CF:∀W,Calls Tryz.prog 88 #[iv 15 rd s1 s2 I,.int .u32 pc,.int .u32 V,.bool ok] W fun e w'=>e=.returned (.agg C)∧Below W.heap.size W w') (a0:0≤A) (a1:A≤4294967295):
  Calls Tryz.prog 90 #[iv 15 rd s1 s2 I,.int .u32 pc,.int .u32 A,.int .u32 B,.slice p n c] w fun e w'=>e=.returned (.agg C)∧Below w.heap.size w w':=by
 go_enter Tryz.func90,Tryz.ntmps90
 go_wp2_with fail
 refine(CM _ (((Below.refl _ _).alloc (Nat.le_refl _) _).alloc (by simp) _)).mono ?_
 rintro e w' ⟨rfl,rfl⟩
 go_wp2_with fail
 refine(CF _).mono ?_
 rintro e w3 ⟨rfl,hk3⟩
 have HZ3:Hid (w3.heap[w.heap.size+1]?=some (.cells (ccs 0 0 0 0 0 0 0 0 0 false 0) 68 (0,0))):=(hk3.block _ (by simp)).trans (heap_alloc2_new _ _ _)
 have hb3:Below w.heap.size w w3:=(((Below.refl _ _).alloc (Nat.le_refl _) _).alloc (by simp) _).trans (hk3.mono (by simp;omega))
 clear hk3
 go_wp2_with(refine wpList_store_row rfl 68 _ _ rfl _ _ rfl rfl 68 (ccs 0 0 0 0 0 0 0 0 0 false 0) HZ3.out (size_commit.trans (congrArg some hC.out.1.symm)) hC.out.1.symm hC.out.2 ?_)
 exact bodyPost_ret (v:=.agg C) (results_cell_row Tryz.results90 _ _ _ 68 _ (0,0) _ rfl (setRow_heap _ _ _ _ _ _ HZ3.out) Tryz.underlying68 rfl (size_commit.trans (congrArg some hC.out.1.symm))) rfl ⟨rfl,below_row hb3 (by omega) _⟩
theorem hdStore16 (pc:Int) (p:Option Addr) (n c:Nat) (w:World) (I A B:Int) (rd s1 s2:Nat) (C:Array Value) (hC:Hid (C.size=11∧Ones C))
  (CF:∀W,Below w.heap.size w W→Calls Tryz.prog 131 #[iv 16 rd s1 s2 I,.int .u32 pc,.int .u32 A,.int .u32 B,.slice p n c] W fun e w'=>e=.returned (.agg C)∧Below W.heap.size W w'):
  Calls Tryz.prog 90 #[iv 16 rd s1 s2 I,.int .u32 pc,.int .u32 A,.int .u32 B,.slice p n c] w fun e w'=>e=.returned (.agg C)∧Below w.heap.size w w':=by
 go_enter Tryz.func90,Tryz.ntmps90
 go_wp2_with fail
 refine(CF _ (((Below.refl _ _).alloc (Nat.le_refl _) _).alloc (by simp) _)).mono ?_
 rintro e w3 ⟨rfl,hk3⟩
 have HZ3:Hid (w3.heap[w.heap.size+1]?=some (.cells (ccs 0 0 0 0 0 0 0 0 0 false 0) 68 (0,0))):=(hk3.block _ (by simp)).trans (heap_alloc2_new _ _ _)
 have hb3:Below w.heap.size w w3:=(((Below.refl _ _).alloc (Nat.le_refl _) _).alloc (by simp) _).trans (hk3.mono (by simp;omega))
 clear hk3
 go_wp2_with(refine wpList_store_row rfl 68 _ _ rfl _ _ rfl rfl 68 (ccs 0 0 0 0 0 0 0 0 0 false 0) HZ3.out (size_commit.trans (congrArg some hC.out.1.symm)) hC.out.1.symm hC.out.2 ?_)
 exact bodyPost_ret (v:=.agg C) (results_cell_row Tryz.results90 _ _ _ 68 _ (0,0) _ rfl (setRow_heap _ _ _ _ _ _ HZ3.out) Tryz.underlying68 rfl (size_commit.trans (congrArg some hC.out.1.symm))) rfl ⟨rfl,below_row hb3 (by omega) _⟩
theorem hdStore17 (pc:Int) (p:Option Addr) (n c:Nat) (w:World) (I A B:Int) (rd s1 s2:Nat) (C:Array Value) (hC:Hid (C.size=11∧Ones C))
  (CF:∀W,Below w.heap.size w W→Calls Tryz.prog 131 #[iv 17 rd s1 s2 I,.int .u32 pc,.int .u32 A,.int .u32 B,.slice p n c] W fun e w'=>e=.returned (.agg C)∧Below W.heap.size W w'):
  Calls Tryz.prog 90 #[iv 17 rd s1 s2 I,.int .u32 pc,.int .u32 A,.int .u32 B,.slice p n c] w fun e w'=>e=.returned (.agg C)∧Below w.heap.size w w':=by
 go_enter Tryz.func90,Tryz.ntmps90
 go_wp2_with fail
 refine(CF _ (((Below.refl _ _).alloc (Nat.le_refl _) _).alloc (by simp) _)).mono ?_
 rintro e w3 ⟨rfl,hk3⟩
 have HZ3:Hid (w3.heap[w.heap.size+1]?=some (.cells (ccs 0 0 0 0 0 0 0 0 0 false 0) 68 (0,0))):=(hk3.block _ (by simp)).trans (heap_alloc2_new _ _ _)
 have hb3:Below w.heap.size w w3:=(((Below.refl _ _).alloc (Nat.le_refl _) _).alloc (by simp) _).trans (hk3.mono (by simp;omega))
 clear hk3
 go_wp2_with(refine wpList_store_row rfl 68 _ _ rfl _ _ rfl rfl 68 (ccs 0 0 0 0 0 0 0 0 0 false 0) HZ3.out (size_commit.trans (congrArg some hC.out.1.symm)) hC.out.1.symm hC.out.2 ?_)
 exact bodyPost_ret (v:=.agg C) (results_cell_row Tryz.results90 _ _ _ 68 _ (0,0) _ rfl (setRow_heap _ _ _ _ _ _ HZ3.out) Tryz.underlying68 rfl (size_commit.trans (congrArg some hC.out.1.symm))) rfl ⟨rfl,below_row hb3 (by omega) _⟩
theorem hdStore18 (pc:Int) (p:Option Addr) (n c:Nat) (w:World) (I A B:Int) (rd s1 s2:Nat) (C:Array Value) (hC:Hid (C.size=11∧Ones C))
  (CF:∀W,Below w.heap.size w W→Calls Tryz.prog 131 #[iv 18 rd s1 s2 I,.int .u32 pc,.int .u32 A,.int .u32 B,.slice p n c] W fun e w'=>e=.returned (.agg C)∧Below W.heap.size W w'):
  Calls Tryz.prog 90 #[iv 18 rd s1 s2 I,.int .u32 pc,.int .u32 A,.int .u32 B,.slice p n c] w fun e w'=>e=.returned (.agg C)∧Below w.heap.size w w':=by
 go_enter Tryz.func90,Tryz.ntmps90
 go_wp2_with fail
 refine(CF _ (((Below.refl _ _).alloc (Nat.le_refl _) _).alloc (by simp) _)).mono ?_
 rintro e w3 ⟨rfl,hk3⟩
 have HZ3:Hid (w3.heap[w.heap.size+1]?=some (.cells (ccs 0 0 0 0 0 0 0 0 0 false 0) 68 (0,0))):=(hk3.block _ (by simp)).trans (heap_alloc2_new _ _ _)
 have hb3:Below w.heap.size w w3:=(((Below.refl _ _).alloc (Nat.le_refl _) _).alloc (by simp) _).trans (hk3.mono (by simp;omega))
 clear hk3
 go_wp2_with(refine wpList_store_row rfl 68 _ _ rfl _ _ rfl rfl 68 (ccs 0 0 0 0 0 0 0 0 0 false 0) HZ3.out (size_commit.trans (congrArg some hC.out.1.symm)) hC.out.1.symm hC.out.2 ?_)
 exact bodyPost_ret (v:=.agg C) (results_cell_row Tryz.results90 _ _ _ 68 _ (0,0) _ rfl (setRow_heap _ _ _ _ _ _ HZ3.out) Tryz.underlying68 rfl (size_commit.trans (congrArg some hC.out.1.symm))) rfl ⟨rfl,below_row hb3 (by omega) _⟩
theorem hdFence (pc:Int) (p:Option Addr) (n c:Nat) (w:World) (I A B:Int) (rd s1 s2:Nat) (C:Array Value) (hC:Hid (C.size=11∧Ones C))
  (CF:∀W,Below w.heap.size w W→Calls Tryz.prog 130 #[.int .u32 pc] W fun e w'=>e=.returned (.agg C)∧Below W.heap.size W w'):
  Calls Tryz.prog 90 #[iv 46 rd s1 s2 I,.int .u32 pc,.int .u32 A,.int .u32 B,.slice p n c] w fun e w'=>e=.returned (.agg C)∧Below w.heap.size w w':=by
 go_enter Tryz.func90,Tryz.ntmps90
 go_wp2_with fail
 refine(CF _ (((Below.refl _ _).alloc (Nat.le_refl _) _).alloc (by simp) _)).mono ?_
 rintro e w3 ⟨rfl,hk3⟩
 have HZ3:Hid (w3.heap[w.heap.size+1]?=some (.cells (ccs 0 0 0 0 0 0 0 0 0 false 0) 68 (0,0))):=(hk3.block _ (by simp)).trans (heap_alloc2_new _ _ _)
 have hb3:Below w.heap.size w w3:=(((Below.refl _ _).alloc (Nat.le_refl _) _).alloc (by simp) _).trans (hk3.mono (by simp;omega))
 clear hk3
 go_wp2_with(refine wpList_store_row rfl 68 _ _ rfl _ _ rfl rfl 68 (ccs 0 0 0 0 0 0 0 0 0 false 0) HZ3.out (size_commit.trans (congrArg some hC.out.1.symm)) hC.out.1.symm hC.out.2 ?_)
 exact bodyPost_ret (v:=.agg C) (results_cell_row Tryz.results90 _ _ _ 68 _ (0,0) _ rfl (setRow_heap _ _ _ _ _ _ HZ3.out) Tryz.underlying68 rfl (size_commit.trans (congrArg some hC.out.1.symm))) rfl ⟨rfl,below_row hb3 (by omega) _⟩
theorem hdCall (pc:Int) (p:Option Addr) (n c:Nat) (w:World) (I A B:Int) (rd s1 s2:Nat) (C:Array Value) (hC:Hid (C.size=11∧Ones C))
  (CF:∀W,Below w.heap.size w W→Calls Tryz.prog 132 #[.int .u32 pc,.int .u32 A,.int .u32 B] W fun e w'=>e=.returned (.agg C)∧Below W.heap.size W w'):
  Calls Tryz.prog 90 #[iv 47 rd s1 s2 I,.int .u32 pc,.int .u32 A,.int .u32 B,.slice p n c] w fun e w'=>e=.returned (.agg C)∧Below w.heap.size w w':=by
 go_enter Tryz.func90,Tryz.ntmps90
 go_wp2_with fail
 refine(CF _ (((Below.refl _ _).alloc (Nat.le_refl _) _).alloc (by simp) _)).mono ?_
 rintro e w3 ⟨rfl,hk3⟩
 have HZ3:Hid (w3.heap[w.heap.size+1]?=some (.cells (ccs 0 0 0 0 0 0 0 0 0 false 0) 68 (0,0))):=(hk3.block _ (by simp)).trans (heap_alloc2_new _ _ _)
 have hb3:Below w.heap.size w w3:=(((Below.refl _ _).alloc (Nat.le_refl _) _).alloc (by simp) _).trans (hk3.mono (by simp;omega))
 clear hk3
 go_wp2_with(refine wpList_store_row rfl 68 _ _ rfl _ _ rfl rfl 68 (ccs 0 0 0 0 0 0 0 0 0 false 0) HZ3.out (size_commit.trans (congrArg some hC.out.1.symm)) hC.out.1.symm hC.out.2 ?_)
 exact bodyPost_ret (v:=.agg C) (results_cell_row Tryz.results90 _ _ _ 68 _ (0,0) _ rfl (setRow_heap _ _ _ _ _ _ HZ3.out) Tryz.underlying68 rfl (size_commit.trans (congrArg some hC.out.1.symm))) rfl ⟨rfl,below_row hb3 (by omega) _⟩
theorem hdBreak (pc:Int) (p:Option Addr) (n c:Nat) (w:World) (I A B:Int) (rd s1 s2:Nat) (C:Array Value) (hC:Hid (C.size=11∧Ones C))
  (CF:∀W,Below w.heap.size w W→Calls Tryz.prog 99 #[.int .u32 pc,.int .i64 6] W fun e w'=>e=.returned (.agg C)∧Below W.heap.size W w'):
  Calls Tryz.prog 90 #[iv 48 rd s1 s2 I,.int .u32 pc,.int .u32 A,.int .u32 B,.slice p n c] w fun e w'=>e=.returned (.agg C)∧Below w.heap.size w w':=by
 go_enter Tryz.func90,Tryz.ntmps90
 go_wp2_with fail
 refine(CF _ (((Below.refl _ _).alloc (Nat.le_refl _) _).alloc (by simp) _)).mono ?_
 rintro e w3 ⟨rfl,hk3⟩
 have HZ3:Hid (w3.heap[w.heap.size+1]?=some (.cells (ccs 0 0 0 0 0 0 0 0 0 false 0) 68 (0,0))):=(hk3.block _ (by simp)).trans (heap_alloc2_new _ _ _)
 have hb3:Below w.heap.size w w3:=(((Below.refl _ _).alloc (Nat.le_refl _) _).alloc (by simp) _).trans (hk3.mono (by simp;omega))
 clear hk3
 go_wp2_with(refine wpList_store_row rfl 68 _ _ rfl _ _ rfl rfl 68 (ccs 0 0 0 0 0 0 0 0 0 false 0) HZ3.out (size_commit.trans (congrArg some hC.out.1.symm)) hC.out.1.symm hC.out.2 ?_)
 exact bodyPost_ret (v:=.agg C) (results_cell_row Tryz.results90 _ _ _ 68 _ (0,0) _ rfl (setRow_heap _ _ _ _ _ _ HZ3.out) Tryz.underlying68 rfl (size_commit.trans (congrArg some hC.out.1.symm))) rfl ⟨rfl,below_row hb3 (by omega) _⟩
end Go.Proofs.YtpiohehijkpghacGreatDoor
