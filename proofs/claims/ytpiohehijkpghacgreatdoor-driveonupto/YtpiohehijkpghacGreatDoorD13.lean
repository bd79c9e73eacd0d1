/- The program's Do, of every instruction; what an instruction reads; its commit. -/
import Derived.Deep.DeepCutAuto
import Derived.Test.YtpiohehijkpghacGreatDoorD12
open Go renaming results_cell_row->Ag,heap_alloc2_new->Ah,wpList_store_row->Ai,bodyPost_ret->Aj,setRow_heap->Ak,cell_of_row->An,wpAnyH_ready->Ap
open Go.Act renaming put->Al
open Go.AllReadyH renaming cons->Am,nil->Ao
open Go.Instr renaming index->Aq
open Go.RowKit.Below renaming refl->Ac
open Int renaming eq_ofNat_of_zero_le->Af
open List renaming setIfInBounds_toArray->Aa,set_cons_zero->Ad,set_cons_succ->Ae
open Nat renaming le_refl->Ab
set_option maxHeartbeats 4000000
set_option maxRecDepth 20000
set_option linter.unusedSimpArgs false
set_option linter.unusedVariables false
open Go.Proofs.Tryz
namespace Go.Proofs.YtpiohehijkpghacGreatDoor
open Go.RowKit
open Hy
attribute [local go_sem ↓] Go.wp_at_zero Go.wp_at_succ
theorem vx(n:Int):IntKind.i64.wrap n=wrap64 n:=by
 simp[IntKind.wrap,IntKind.bits,IntKind.signed,wrap64]
 try omega
theorem res5{w w':World}{o:Obj}{t:TypeId}(hk:Below ((w.alloc o).alloc (.cells #[.int .i64 0,.int .i64 0,.int .i64 0,.int .i64 0,.int .i32 0] t)).drew.heap.size ((w.alloc o).alloc (.cells #[.int .i64 0,.int .i64 0,.int .i64 0,.int .i64 0,.int .i32 0] t)).drew w'):
  w'.cell? ⟨w.heap.size+1,0,none⟩=some (.int .i64 0)/\w'.cell? ⟨w.heap.size+1,1,none⟩=some (.int .i64 0)/\w'.cell? ⟨w.heap.size+1,2,none⟩=some (.int .i64 0)/\w'.cell? ⟨w.heap.size+1,3,none⟩=some (.int .i64 0)/\w'.cell? ⟨w.heap.size+1,4,none⟩=some (.int .i32 0)
  /\w'.frozen? ⟨w.heap.size+1,0,none⟩=false/\w'.frozen? ⟨w.heap.size+1,1,none⟩=false/\w'.frozen? ⟨w.heap.size+1,2,none⟩=false/\w'.frozen? ⟨w.heap.size+1,3,none⟩=false/\w'.frozen? ⟨w.heap.size+1,4,none⟩=false:=by
 obtain⟨hc,hf⟩:=bcell hk
 simp only[hc _ _ (show w.heap.size+1<_ by simp),hf _ _ (show w.heap.size+1<_ by simp)]
 simp[go_sem]
theorem zjg(c:Nat->Int)(n x:Int)(x0:0<=x)(x1:x<=4294967295)
  (hb:∀j,1<=j->0<=c j/\c j<=31) (w:World):
  Calls prog 38 #[fv c,.int .i64 n,.int .u32 x] w fun e w'=>e=.returned (.agg #[.int .i64 n,.int .i64 (rrg x 128 (c 1)),.int .i64 (rrg x 32768 (c 2)),.int .i64 (rrg x 1048576 (c 3)),.int .i32 (rim c x)])/\Below w.heap.size w w':=by
 go_enter func38,ntmps38
 go_wp2_with fail
 go_region_held3 (fun w'=>w'.cell? ⟨w.heap.size,0,none⟩=some (.int .u32 (c 0))/\w'.cell? ⟨w.heap.size,1,none⟩=some (.int .u32 (c 1))/\w'.cell? ⟨w.heap.size,2,none⟩=some (.int .u32 (c 2))/\w'.cell? ⟨w.heap.size,3,none⟩=some (.int .u32 (c 3))/\w'.cell? ⟨w.heap.size,4,none⟩=some (.int .u32 (c 4))/\w'.cell? ⟨w.heap.size,5,none⟩=some (.int .u32 (c 5))/\w'.cell? ⟨w.heap.size,6,none⟩=some (.int .u32 (c 6))/\w'.cell? ⟨w.heap.size,7,none⟩=some (.int .u32 (c 7))/\w'.cell? ⟨w.heap.size,8,none⟩=some (.int .u32 (c 8))/\w'.cell? ⟨w.heap.size,9,none⟩=some (.int .u32 (c 9))/\w'.cell? ⟨w.heap.size,10,none⟩=some (.int .u32 (c 10))/\w'.cell? ⟨w.heap.size,11,none⟩=some (.int .u32 (c 11))/\w'.cell? ⟨w.heap.size,12,none⟩=some (.int .u32 (c 12))/\w'.cell? ⟨w.heap.size,13,none⟩=some (.int .u32 (c 13))/\w'.cell? ⟨w.heap.size,14,none⟩=some (.int .u32 (c 14))/\w'.cell? ⟨w.heap.size,15,none⟩=some (.int .u32 (c 15))/\w'.cell? ⟨w.heap.size,16,none⟩=some (.int .u32 (c 16))) (first|go_keep|(obtain⟨hc,hf⟩:=bcell hk;refine⟨?_,?_,?_,?_,?_,?_,?_,?_,?_,?_,?_,?_,?_,?_,?_,?_,?_⟩<;>(rw[hc _ _ (by simp;omega)];go_keep))) ((go_at_call 69;refine(zcY c x x0 x1 hb _).mono ?_;rintro e w' ⟨rfl,hk⟩;obtain⟨r0,r1,r2,r3,r4,z0,z1,z2,z3,z4⟩:=res5 hk))
 have hs:=hk.size
 simp at hs
 go_wp2
 refine Aj (v:=.agg #[.int .i64 n,.int .i64 (rrg x 128 (c 1)),.int .i64 (rrg x 32768 (c 2)),.int .i64 (rrg x 1048576 (c 3)),.int .i32 (rim c x)]) ?_ rfl ⟨rfl,?_⟩
 ·simp[results,results38,go_sem,rrg,r0,r1,r2,r3,r4]
  exact⟨vx _,vx _,vx _⟩
 ·have hbase:Below w.heap.size w w':=(((Ac _ _).alloc (Ab _) _).alloc (by simp) _).drew.trans (hk.mono (by simp;omega))
  repeat(first|exact hbase|refine Below.drew ?_|refine Below.setCell ?_ (by simp) _)
end Go.Proofs.YtpiohehijkpghacGreatDoor
namespace Go.Proofs.YtpiohehijkpghacGreatDoor
open Go.RowKit
open Hy
def Tab(w:World):Prop:=∀i,i<153->w.cell? ⟨0,i,none⟩=some (.int .u32 (ftab.getD i 0))
theorem Tab.size{w:World}(h:Tab w):0<w.heap.size:=World.block_lt_of_cell? _ _ (h 0 (by omega))
theorem Tab.below{w w':World}{B:Nat}(h:Tab w)(hb:Below B w w')(hB:0<B):Tab w':=
 fun i hi=>(hb.cell (p:=⟨0,i,none⟩) hB).trans (h i hi)
theorem Tab.alloc{w:World}(h:Tab w)(o:Obj):Tab (w.alloc o):=
 h.below ((Ac w.heap.size w).alloc (Ab _) o) h.size
theorem Tab.form{w:World}(h:Tab w)(f:Nat)(hf:f<9)(j:Nat)(hj:j<17):w.cell? ⟨0,f*17+j,none⟩=some (.int .u32 (fm f j)):=by
 rw[h _ (by omega),fm,if_pos hj]
theorem ix34(n:Nat)(hn:n<49)(w:World):(Aq 107 (.agg kc) (.int .i64 (n:Int))).run prog w=.ok (.agg #[.int .i64 (kn n:Int),.int .u32 (kb n)]) w:=
 match n,hn with
 |0,_=>by kernel_rfl
 |1,_=>by kernel_rfl
 |2,_=>by kernel_rfl
 |3,_=>by kernel_rfl
 |4,_=>by kernel_rfl
 |5,_=>by kernel_rfl
 |6,_=>by kernel_rfl
 |7,_=>by kernel_rfl
 |8,_=>by kernel_rfl
 |9,_=>by kernel_rfl
 |10,_=>by kernel_rfl
 |11,_=>by kernel_rfl
 |12,_=>by kernel_rfl
 |13,_=>by kernel_rfl
 |14,_=>by kernel_rfl
 |15,_=>by kernel_rfl
 |16,_=>by kernel_rfl
 |17,_=>by kernel_rfl
 |18,_=>by kernel_rfl
 |19,_=>by kernel_rfl
 |20,_=>by kernel_rfl
 |21,_=>by kernel_rfl
 |22,_=>by kernel_rfl
 |23,_=>by kernel_rfl
 |24,_=>by kernel_rfl
 |25,_=>by kernel_rfl
 |26,_=>by kernel_rfl
 |27,_=>by kernel_rfl
 |28,_=>by kernel_rfl
 |29,_=>by kernel_rfl
 |30,_=>by kernel_rfl
 |31,_=>by kernel_rfl
 |32,_=>by kernel_rfl
 |33,_=>by kernel_rfl
 |34,_=>by kernel_rfl
 |35,_=>by kernel_rfl
 |36,_=>by kernel_rfl
 |37,_=>by kernel_rfl
 |38,_=>by kernel_rfl
 |39,_=>by kernel_rfl
 |40,_=>by kernel_rfl
 |41,_=>by kernel_rfl
 |42,_=>by kernel_rfl
 |43,_=>by kernel_rfl
 |44,_=>by kernel_rfl
 |45,_=>by kernel_rfl
 |46,_=>by kernel_rfl
 |47,_=>by kernel_rfl
 |48,_=>by kernel_rfl
 |k+49,h=>by omega
theorem below_drewN{B:Nat}{a w:World}(h:Below B a w)(n:Nat):Below B a (w.drewN n):=⟨h.os,h.tape,h.output,h.size,h.block⟩
theorem zo8{wr w1:World}{o:Obj}{nq B:Nat}(hk:Below ((wr.alloc o).drewN nq).heap.size ((wr.alloc o).drewN nq) w1)(hB:B<wr.heap.size)
  (r0:wr.cell? ⟨B,0,none⟩=some (.int .i64 0)) (r1:wr.cell? ⟨B,1,none⟩=some (.int .i64 0)) (r2:wr.cell? ⟨B,2,none⟩=some (.int .i64 0)) (r3:wr.cell? ⟨B,3,none⟩=some (.int .i64 0)) (r4:wr.cell? ⟨B,4,none⟩=some (.int .i32 0))
  (z:∀j,wr.frozen? ⟨B,j,none⟩=false):
  w1.cell? ⟨B,0,none⟩=some (.int .i64 0)/\w1.cell? ⟨B,1,none⟩=some (.int .i64 0)/\w1.cell? ⟨B,2,none⟩=some (.int .i64 0)/\w1.cell? ⟨B,3,none⟩=some (.int .i64 0)/\w1.cell? ⟨B,4,none⟩=some (.int .i32 0)/\∀j,w1.frozen? ⟨B,j,none⟩=false:=by
 have hb:Below wr.heap.size wr w1:=(below_drewN ((Ac _ _).alloc (Ab _) o) nq).trans (hk.mono (by simp))
 obtain⟨hc,hf⟩:=bcell hb
 exact⟨(hc _ _ hB).trans r0,(hc _ _ hB).trans r1,(hc _ _ hB).trans r2,(hc _ _ hB).trans r3,(hc _ _ hB).trans r4,fun j=>(hf _ _ hB).trans (z j)⟩
abbrev insv(n:Nat)(x:Int):Value:=iv n (rrg x 128 (fm (kn n) 1)) (rrg x 32768 (fm (kn n) 2)) (rrg x 1048576 (fm (kn n) 3)) (rim (fm (kn n)) x)
theorem zfd(x:Int)(x0:0<=x)(x1:x<=4294967295)(w:World)(ht:Tab w):
  Calls prog 19 #[.int .u32 x] w fun e w'=>((∃n:Nat,1<=n/\n<=48/\hit n x=true/\(∀m,1<=m->m<n->hit m x=false)/\e=.returned (.tuple #[insv n x,.bool true]))\/((∀m,1<=m->m<=48->hit m x=false)/\e=.returned (.tuple #[iv 0 0 0 0 0,.bool false])))/\Below w.heap.size w w':=by
 go_enter func19,ntmps19
 go_wp2_with(go_at_call 37;refine(zg2 _).mono ?_;rintro e w1 ⟨rfl,hk⟩)
 go_loopw [4,5,7] (fun o p i wl=>∃n:Nat,n<=49/\i=.int .i64 n/\(∀m,1<=m->m<n->hit m x=false)/\Below (w.heap.size+1) (w.alloc (.cells #[.int .i64 0,.int .i64 0,.int .i64 0,.int .i64 0,.int .i32 0] 78)) wl/\w.heap.size+1<=wl.heap.size) (fun _ _ k _=>49-(intOf k).toNat)
 case atStart=>
  have:=hk.size
  simp at this
  exact⟨0,by omega,rfl,fun m h1 h2=>by omega,hk.mono (by simp),this⟩
 case round=>
  clear hk w1
  obtain⟨n,hn,rfl,hno,hbe,hsz⟩:=hrel
  have htr:Tab wr:=(ht.alloc _).below hbe (by have:=ht.size;omega)
  have hbig:=htr.size
  obtain⟨hc,hf⟩:=bcell hbe
  have r0:wr.cell? ⟨w.heap.size,0,none⟩=some (.int .i64 0):=by rw[hc _ _ (by omega)];simp[go_sem]
  have r1:wr.cell? ⟨w.heap.size,1,none⟩=some (.int .i64 0):=by rw[hc _ _ (by omega)];simp[go_sem]
  have r2:wr.cell? ⟨w.heap.size,2,none⟩=some (.int .i64 0):=by rw[hc _ _ (by omega)];simp[go_sem]
  have r3:wr.cell? ⟨w.heap.size,3,none⟩=some (.int .i64 0):=by rw[hc _ _ (by omega)];simp[go_sem]
  have r4:wr.cell? ⟨w.heap.size,4,none⟩=some (.int .i32 0):=by rw[hc _ _ (by omega)];simp[go_sem]
  have z:∀j,wr.frozen? ⟨w.heap.size,j,none⟩=false:=by intro j;rw[hf _ _ (by omega)];simp[go_sem]
  clear hc hf
  have h0:=ht.size
  have hw0:0<wr.heap.size:=by omega
  by_cases hlt:n<49
  ·by_cases hn0:n=0
   ·subst hn0
    have ix:∀w,(Aq 107 (.agg kc) (.int .i64 0)).run prog w=.ok (.agg #[.int .i64 0,.int .u32 0]) w:=fun w=>ix34 0 (by omega) w
    go_wp2_with fail
    go_quiet(fail)
    go_wp2_with fail
    refine⟨⟨1,by omega,by go_num,fun m h1 h2=>by omega,?_,?_⟩,by simp[intOf]⟩
    ·exact below_drewN (hbe.alloc hsz _) _
    ·simp;omega
   ·have ix:=ix34 n hlt
    obtain⟨hF9,_,hF1⟩:=zmV n hlt
    obtain⟨F,hF⟩:∃F,F=kn n:=⟨_,rfl⟩
    have hF1':=hF1 (by omega)
    clear hF1
    rw[<-hF]at ix hF9 hF1'
    have HF:Hid (F=kn n):=hF
    clear hF
    have hne:((F:Int) != 0)=true:=by simp;omega
    have b1:(0:Int)<=(F:Int):=by omega
    have b2:(F:Int)<9:=by omega
    have f0':wr.cell? ⟨0,F*17,none⟩=some (.int .u32 (fm F 0)):=htr.form F hF9 0 (by omega)
    have f1:=htr.form F hF9 1 (by omega)
    have f2:=htr.form F hF9 2 (by omega)
    have f3:=htr.form F hF9 3 (by omega)
    have f4:=htr.form F hF9 4 (by omega)
    have f5:=htr.form F hF9 5 (by omega)
    have f6:=htr.form F hF9 6 (by omega)
    have f7:=htr.form F hF9 7 (by omega)
    have f8:=htr.form F hF9 8 (by omega)
    have f9:=htr.form F hF9 9 (by omega)
    have f10:=htr.form F hF9 10 (by omega)
    have f11:=htr.form F hF9 11 (by omega)
    have f12:=htr.form F hF9 12 (by omega)
    have f13:=htr.form F hF9 13 (by omega)
    have f14:=htr.form F hF9 14 (by omega)
    have f15:=htr.form F hF9 15 (by omega)
    have f16:=htr.form F hF9 16 (by omega)
    by_cases hh:hit n x=true
    ·have hh':(bits .and .u32 x (fm F 0)==kb n)=true:=by rw[HF.out];exact hh
     go_wp2_with fail
     go_quiet(fail)
     have hbe2:=below_drewN (hbe.alloc hsz (.cells #[.int .i64 (F:Int),.int .u32 (kb n)] 106)) nq
     go_wp2_with(go_at_call 38;refine(zjg (fm F) _ _ x0 x1 (ziA F hF9) _).mono ?_;rintro e w1 ⟨rfl,hk⟩;obtain⟨q0,q1,q2,q3,q4,y⟩:=zo8 hk (by omega) r0 r1 r2 r3 r4 z)
     replace hbe2:=hbe2.trans (hk.mono (by simp;omega))
     refine Aj (v:=.tuple #[insv n x,.bool true]) ?_ rfl ⟨.inl ⟨n,by omega,by omega,hh,hno,rfl⟩,?_⟩
     ·simp[results,results19,go_sem,q0,q1,q2,q3,q4,HF.out]
     ·have hbase:Below w.heap.size w w1:=((Ac _ _).alloc (Ab _) _).trans (hbe2.mono (by omega))
      repeat(first|exact hbase|refine Below.setCell ?_ (by simp) _)
    ·have hh':(bits .and .u32 x (fm F 0)==kb n)=false:=by rw[HF.out];simpa[hit]using hh
     clear f1 f2 f3 f4 f5 f6 f7 f8 f9 f10 f11 f12 f13 f14 f15 f16
     go_wp2_with fail
     go_quiet(fail)
     go_wp2_with fail
     refine⟨⟨n+1,by omega,by go_num,?_,below_drewN (hbe.alloc hsz _) _,by simp;omega⟩,by simp[intOf];omega⟩
     intro m h1 h2
     by_cases e:m=n
     ·subst e;simpa using hh
     ·exact hno m h1 (by omega)
  ·obtain rfl:n=49:=by omega
   go_wp2_with fail
   refine Aj (v:=.tuple #[iv 0 0 0 0 0,.bool false]) ?_ rfl ⟨.inr ⟨fun m h1 h2=>hno m h1 (by omega),rfl⟩,?_⟩
   ·simp[results,results19,go_sem,r0,r1,r2,r3,r4]
   ·have hbase:Below w.heap.size w wr:=((Ac _ _).alloc (Ab _) _).trans (hbe.mono (by omega))
    repeat(first|exact hbase|refine Below.setCell ?_ (by simp) _)
end Go.Proofs.YtpiohehijkpghacGreatDoor
namespace Go.Proofs.YtpiohehijkpghacGreatDoor
open Go.RowKit
open Hy
attribute [local go_sem ↓] Go.wp_at_zero Go.wp_at_succ
def back(X:Int)(n:Nat)(rd rs1 rs2 imm:Int):Prop:=hit n X=true/\(∀k,1<=k->k<n->hit k X=false)/\rrg X 128 (fm (kn n) 1)=rd/\rrg X 32768 (fm (kn n) 2)=rs1/\rrg X 1048576 (fm (kn n) 3)=rs2/\rim (fm (kn n)) X=imm
end Go.Proofs.YtpiohehijkpghacGreatDoor
namespace Go.Proofs.YtpiohehijkpghacGreatDoor
open Go.RowKit
open Hy
theorem zeh(pc:Int)(p:Option Addr)(n c:Nat)(w:World)(I A B V:Int)(ok:Bool)(rd s1 s2:Nat)(C:Array Value)(hC:Hid (C.size=11/\Ones C))
  (CM:∀W,Below w.heap.size w W->Calls prog 98 #[.slice p n c,.int .i64 11,.int .u32 ((A+I)%4294967296)] W fun e w'=>e=.returned (.tuple #[.int .u32 V,.bool ok])/\w'=W)
  (CF:∀W,Calls prog 88 #[iv 11 rd s1 s2 I,.int .u32 pc,.int .u32 V,.bool ok] W fun e w'=>e=.returned (.agg C)/\Below W.heap.size W w') (a0:0<=A) (a1:A<=4294967295):
  Calls prog 90 #[iv 11 rd s1 s2 I,.int .u32 pc,.int .u32 A,.int .u32 B,.slice p n c] w fun e w'=>e=.returned (.agg C)/\Below w.heap.size w w':=by
 go_enter func90,ntmps90
 go_wp2_with fail
 refine(CM _ (((Ac _ _).alloc (Ab _) _).alloc (by simp) _)).mono ?_
 rintro e w' ⟨rfl,rfl⟩
 go_wp2_with fail
 refine(CF _).mono ?_
 rintro e w3 ⟨rfl,hk3⟩
 have HZ3:Hid (w3.heap[w.heap.size+1]?=some (.cells (ccs 0 0 0 0 0 0 0 0 0 false 0) 68 (0,0))):=(hk3.block _ (by simp)).trans (Ah _ _ _)
 have hb3:Below w.heap.size w w3:=(((Ac _ _).alloc (Ab _) _).alloc (by simp) _).trans (hk3.mono (by simp;omega))
 clear hk3
 go_wp2_with(refine Ai rfl 68 _ _ rfl _ _ rfl rfl 68 (ccs 0 0 0 0 0 0 0 0 0 false 0) HZ3.out (za.trans (congrArg some hC.out.1.symm)) hC.out.1.symm hC.out.2 ?_)
 exact Aj (v:=.agg C) (Ag results90 _ _ _ 68 _ (0,0) _ rfl (Ak _ _ _ _ _ _ HZ3.out) underlying68 rfl (za.trans (congrArg some hC.out.1.symm))) rfl ⟨rfl,zc hb3 (by omega) _⟩
theorem zei(pc:Int)(p:Option Addr)(n c:Nat)(w:World)(I A B V:Int)(ok:Bool)(rd s1 s2:Nat)(C:Array Value)(hC:Hid (C.size=11/\Ones C))
  (CM:∀W,Below w.heap.size w W->Calls prog 98 #[.slice p n c,.int .i64 12,.int .u32 ((A+I)%4294967296)] W fun e w'=>e=.returned (.tuple #[.int .u32 V,.bool ok])/\w'=W)
  (CF:∀W,Calls prog 88 #[iv 12 rd s1 s2 I,.int .u32 pc,.int .u32 V,.bool ok] W fun e w'=>e=.returned (.agg C)/\Below W.heap.size W w') (a0:0<=A) (a1:A<=4294967295):
  Calls prog 90 #[iv 12 rd s1 s2 I,.int .u32 pc,.int .u32 A,.int .u32 B,.slice p n c] w fun e w'=>e=.returned (.agg C)/\Below w.heap.size w w':=by
 go_enter func90,ntmps90
 go_wp2_with fail
 refine(CM _ (((Ac _ _).alloc (Ab _) _).alloc (by simp) _)).mono ?_
 rintro e w' ⟨rfl,rfl⟩
 go_wp2_with fail
 refine(CF _).mono ?_
 rintro e w3 ⟨rfl,hk3⟩
 have HZ3:Hid (w3.heap[w.heap.size+1]?=some (.cells (ccs 0 0 0 0 0 0 0 0 0 false 0) 68 (0,0))):=(hk3.block _ (by simp)).trans (Ah _ _ _)
 have hb3:Below w.heap.size w w3:=(((Ac _ _).alloc (Ab _) _).alloc (by simp) _).trans (hk3.mono (by simp;omega))
 clear hk3
 go_wp2_with(refine Ai rfl 68 _ _ rfl _ _ rfl rfl 68 (ccs 0 0 0 0 0 0 0 0 0 false 0) HZ3.out (za.trans (congrArg some hC.out.1.symm)) hC.out.1.symm hC.out.2 ?_)
 exact Aj (v:=.agg C) (Ag results90 _ _ _ 68 _ (0,0) _ rfl (Ak _ _ _ _ _ _ HZ3.out) underlying68 rfl (za.trans (congrArg some hC.out.1.symm))) rfl ⟨rfl,zc hb3 (by omega) _⟩
theorem zej(pc:Int)(p:Option Addr)(n c:Nat)(w:World)(I A B V:Int)(ok:Bool)(rd s1 s2:Nat)(C:Array Value)(hC:Hid (C.size=11/\Ones C))
  (CM:∀W,Below w.heap.size w W->Calls prog 98 #[.slice p n c,.int .i64 13,.int .u32 ((A+I)%4294967296)] W fun e w'=>e=.returned (.tuple #[.int .u32 V,.bool ok])/\w'=W)
  (CF:∀W,Calls prog 88 #[iv 13 rd s1 s2 I,.int .u32 pc,.int .u32 V,.bool ok] W fun e w'=>e=.returned (.agg C)/\Below W.heap.size W w') (a0:0<=A) (a1:A<=4294967295):
  Calls prog 90 #[iv 13 rd s1 s2 I,.int .u32 pc,.int .u32 A,.int .u32 B,.slice p n c] w fun e w'=>e=.returned (.agg C)/\Below w.heap.size w w':=by
 go_enter func90,ntmps90
 go_wp2_with fail
 refine(CM _ (((Ac _ _).alloc (Ab _) _).alloc (by simp) _)).mono ?_
 rintro e w' ⟨rfl,rfl⟩
 go_wp2_with fail
 refine(CF _).mono ?_
 rintro e w3 ⟨rfl,hk3⟩
 have HZ3:Hid (w3.heap[w.heap.size+1]?=some (.cells (ccs 0 0 0 0 0 0 0 0 0 false 0) 68 (0,0))):=(hk3.block _ (by simp)).trans (Ah _ _ _)
 have hb3:Below w.heap.size w w3:=(((Ac _ _).alloc (Ab _) _).alloc (by simp) _).trans (hk3.mono (by simp;omega))
 clear hk3
 go_wp2_with(refine Ai rfl 68 _ _ rfl _ _ rfl rfl 68 (ccs 0 0 0 0 0 0 0 0 0 false 0) HZ3.out (za.trans (congrArg some hC.out.1.symm)) hC.out.1.symm hC.out.2 ?_)
 exact Aj (v:=.agg C) (Ag results90 _ _ _ 68 _ (0,0) _ rfl (Ak _ _ _ _ _ _ HZ3.out) underlying68 rfl (za.trans (congrArg some hC.out.1.symm))) rfl ⟨rfl,zc hb3 (by omega) _⟩
theorem zek(pc:Int)(p:Option Addr)(n c:Nat)(w:World)(I A B V:Int)(ok:Bool)(rd s1 s2:Nat)(C:Array Value)(hC:Hid (C.size=11/\Ones C))
  (CM:∀W,Below w.heap.size w W->Calls prog 98 #[.slice p n c,.int .i64 14,.int .u32 ((A+I)%4294967296)] W fun e w'=>e=.returned (.tuple #[.int .u32 V,.bool ok])/\w'=W)
  (CF:∀W,Calls prog 88 #[iv 14 rd s1 s2 I,.int .u32 pc,.int .u32 V,.bool ok] W fun e w'=>e=.returned (.agg C)/\Below W.heap.size W w') (a0:0<=A) (a1:A<=4294967295):
  Calls prog 90 #[iv 14 rd s1 s2 I,.int .u32 pc,.int .u32 A,.int .u32 B,.slice p n c] w fun e w'=>e=.returned (.agg C)/\Below w.heap.size w w':=by
 go_enter func90,ntmps90
 go_wp2_with fail
 refine(CM _ (((Ac _ _).alloc (Ab _) _).alloc (by simp) _)).mono ?_
 rintro e w' ⟨rfl,rfl⟩
 go_wp2_with fail
 refine(CF _).mono ?_
 rintro e w3 ⟨rfl,hk3⟩
 have HZ3:Hid (w3.heap[w.heap.size+1]?=some (.cells (ccs 0 0 0 0 0 0 0 0 0 false 0) 68 (0,0))):=(hk3.block _ (by simp)).trans (Ah _ _ _)
 have hb3:Below w.heap.size w w3:=(((Ac _ _).alloc (Ab _) _).alloc (by simp) _).trans (hk3.mono (by simp;omega))
 clear hk3
 go_wp2_with(refine Ai rfl 68 _ _ rfl _ _ rfl rfl 68 (ccs 0 0 0 0 0 0 0 0 0 false 0) HZ3.out (za.trans (congrArg some hC.out.1.symm)) hC.out.1.symm hC.out.2 ?_)
 exact Aj (v:=.agg C) (Ag results90 _ _ _ 68 _ (0,0) _ rfl (Ak _ _ _ _ _ _ HZ3.out) underlying68 rfl (za.trans (congrArg some hC.out.1.symm))) rfl ⟨rfl,zc hb3 (by omega) _⟩
theorem zel(pc:Int)(p:Option Addr)(n c:Nat)(w:World)(I A B V:Int)(ok:Bool)(rd s1 s2:Nat)(C:Array Value)(hC:Hid (C.size=11/\Ones C))
  (CM:∀W,Below w.heap.size w W->Calls prog 98 #[.slice p n c,.int .i64 15,.int .u32 ((A+I)%4294967296)] W fun e w'=>e=.returned (.tuple #[.int .u32 V,.bool ok])/\w'=W)
  (CF:∀W,Calls prog 88 #[iv 15 rd s1 s2 I,.int .u32 pc,.int .u32 V,.bool ok] W fun e w'=>e=.returned (.agg C)/\Below W.heap.size W w') (a0:0<=A) (a1:A<=4294967295):
  Calls prog 90 #[iv 15 rd s1 s2 I,.int .u32 pc,.int .u32 A,.int .u32 B,.slice p n c] w fun e w'=>e=.returned (.agg C)/\Below w.heap.size w w':=by
 go_enter func90,ntmps90
 go_wp2_with fail
 refine(CM _ (((Ac _ _).alloc (Ab _) _).alloc (by simp) _)).mono ?_
 rintro e w' ⟨rfl,rfl⟩
 go_wp2_with fail
 refine(CF _).mono ?_
 rintro e w3 ⟨rfl,hk3⟩
 have HZ3:Hid (w3.heap[w.heap.size+1]?=some (.cells (ccs 0 0 0 0 0 0 0 0 0 false 0) 68 (0,0))):=(hk3.block _ (by simp)).trans (Ah _ _ _)
 have hb3:Below w.heap.size w w3:=(((Ac _ _).alloc (Ab _) _).alloc (by simp) _).trans (hk3.mono (by simp;omega))
 clear hk3
 go_wp2_with(refine Ai rfl 68 _ _ rfl _ _ rfl rfl 68 (ccs 0 0 0 0 0 0 0 0 0 false 0) HZ3.out (za.trans (congrArg some hC.out.1.symm)) hC.out.1.symm hC.out.2 ?_)
 exact Aj (v:=.agg C) (Ag results90 _ _ _ 68 _ (0,0) _ rfl (Ak _ _ _ _ _ _ HZ3.out) underlying68 rfl (za.trans (congrArg some hC.out.1.symm))) rfl ⟨rfl,zc hb3 (by omega) _⟩
theorem zb3(pc:Int)(p:Option Addr)(n c:Nat)(w:World)(I A B:Int)(rd s1 s2:Nat)(C:Array Value)(hC:Hid (C.size=11/\Ones C))
  (CF:∀W,Below w.heap.size w W->Calls prog 131 #[iv 16 rd s1 s2 I,.int .u32 pc,.int .u32 A,.int .u32 B,.slice p n c] W fun e w'=>e=.returned (.agg C)/\Below W.heap.size W w'):
  Calls prog 90 #[iv 16 rd s1 s2 I,.int .u32 pc,.int .u32 A,.int .u32 B,.slice p n c] w fun e w'=>e=.returned (.agg C)/\Below w.heap.size w w':=by
 go_enter func90,ntmps90
 go_wp2_with fail
 refine(CF _ (((Ac _ _).alloc (Ab _) _).alloc (by simp) _)).mono ?_
 rintro e w3 ⟨rfl,hk3⟩
 have HZ3:Hid (w3.heap[w.heap.size+1]?=some (.cells (ccs 0 0 0 0 0 0 0 0 0 false 0) 68 (0,0))):=(hk3.block _ (by simp)).trans (Ah _ _ _)
 have hb3:Below w.heap.size w w3:=(((Ac _ _).alloc (Ab _) _).alloc (by simp) _).trans (hk3.mono (by simp;omega))
 clear hk3
 go_wp2_with(refine Ai rfl 68 _ _ rfl _ _ rfl rfl 68 (ccs 0 0 0 0 0 0 0 0 0 false 0) HZ3.out (za.trans (congrArg some hC.out.1.symm)) hC.out.1.symm hC.out.2 ?_)
 exact Aj (v:=.agg C) (Ag results90 _ _ _ 68 _ (0,0) _ rfl (Ak _ _ _ _ _ _ HZ3.out) underlying68 rfl (za.trans (congrArg some hC.out.1.symm))) rfl ⟨rfl,zc hb3 (by omega) _⟩
theorem zb4(pc:Int)(p:Option Addr)(n c:Nat)(w:World)(I A B:Int)(rd s1 s2:Nat)(C:Array Value)(hC:Hid (C.size=11/\Ones C))
  (CF:∀W,Below w.heap.size w W->Calls prog 131 #[iv 17 rd s1 s2 I,.int .u32 pc,.int .u32 A,.int .u32 B,.slice p n c] W fun e w'=>e=.returned (.agg C)/\Below W.heap.size W w'):
  Calls prog 90 #[iv 17 rd s1 s2 I,.int .u32 pc,.int .u32 A,.int .u32 B,.slice p n c] w fun e w'=>e=.returned (.agg C)/\Below w.heap.size w w':=by
 go_enter func90,ntmps90
 go_wp2_with fail
 refine(CF _ (((Ac _ _).alloc (Ab _) _).alloc (by simp) _)).mono ?_
 rintro e w3 ⟨rfl,hk3⟩
 have HZ3:Hid (w3.heap[w.heap.size+1]?=some (.cells (ccs 0 0 0 0 0 0 0 0 0 false 0) 68 (0,0))):=(hk3.block _ (by simp)).trans (Ah _ _ _)
 have hb3:Below w.heap.size w w3:=(((Ac _ _).alloc (Ab _) _).alloc (by simp) _).trans (hk3.mono (by simp;omega))
 clear hk3
 go_wp2_with(refine Ai rfl 68 _ _ rfl _ _ rfl rfl 68 (ccs 0 0 0 0 0 0 0 0 0 false 0) HZ3.out (za.trans (congrArg some hC.out.1.symm)) hC.out.1.symm hC.out.2 ?_)
 exact Aj (v:=.agg C) (Ag results90 _ _ _ 68 _ (0,0) _ rfl (Ak _ _ _ _ _ _ HZ3.out) underlying68 rfl (za.trans (congrArg some hC.out.1.symm))) rfl ⟨rfl,zc hb3 (by omega) _⟩
theorem zb5(pc:Int)(p:Option Addr)(n c:Nat)(w:World)(I A B:Int)(rd s1 s2:Nat)(C:Array Value)(hC:Hid (C.size=11/\Ones C))
  (CF:∀W,Below w.heap.size w W->Calls prog 131 #[iv 18 rd s1 s2 I,.int .u32 pc,.int .u32 A,.int .u32 B,.slice p n c] W fun e w'=>e=.returned (.agg C)/\Below W.heap.size W w'):
  Calls prog 90 #[iv 18 rd s1 s2 I,.int .u32 pc,.int .u32 A,.int .u32 B,.slice p n c] w fun e w'=>e=.returned (.agg C)/\Below w.heap.size w w':=by
 go_enter func90,ntmps90
 go_wp2_with fail
 refine(CF _ (((Ac _ _).alloc (Ab _) _).alloc (by simp) _)).mono ?_
 rintro e w3 ⟨rfl,hk3⟩
 have HZ3:Hid (w3.heap[w.heap.size+1]?=some (.cells (ccs 0 0 0 0 0 0 0 0 0 false 0) 68 (0,0))):=(hk3.block _ (by simp)).trans (Ah _ _ _)
 have hb3:Below w.heap.size w w3:=(((Ac _ _).alloc (Ab _) _).alloc (by simp) _).trans (hk3.mono (by simp;omega))
 clear hk3
 go_wp2_with(refine Ai rfl 68 _ _ rfl _ _ rfl rfl 68 (ccs 0 0 0 0 0 0 0 0 0 false 0) HZ3.out (za.trans (congrArg some hC.out.1.symm)) hC.out.1.symm hC.out.2 ?_)
 exact Aj (v:=.agg C) (Ag results90 _ _ _ 68 _ (0,0) _ rfl (Ak _ _ _ _ _ _ HZ3.out) underlying68 rfl (za.trans (congrArg some hC.out.1.symm))) rfl ⟨rfl,zc hb3 (by omega) _⟩
theorem zlt(pc:Int)(p:Option Addr)(n c:Nat)(w:World)(I A B:Int)(rd s1 s2:Nat)(C:Array Value)(hC:Hid (C.size=11/\Ones C))
  (CF:∀W,Below w.heap.size w W->Calls prog 130 #[.int .u32 pc] W fun e w'=>e=.returned (.agg C)/\Below W.heap.size W w'):
  Calls prog 90 #[iv 46 rd s1 s2 I,.int .u32 pc,.int .u32 A,.int .u32 B,.slice p n c] w fun e w'=>e=.returned (.agg C)/\Below w.heap.size w w':=by
 go_enter func90,ntmps90
 go_wp2_with fail
 refine(CF _ (((Ac _ _).alloc (Ab _) _).alloc (by simp) _)).mono ?_
 rintro e w3 ⟨rfl,hk3⟩
 have HZ3:Hid (w3.heap[w.heap.size+1]?=some (.cells (ccs 0 0 0 0 0 0 0 0 0 false 0) 68 (0,0))):=(hk3.block _ (by simp)).trans (Ah _ _ _)
 have hb3:Below w.heap.size w w3:=(((Ac _ _).alloc (Ab _) _).alloc (by simp) _).trans (hk3.mono (by simp;omega))
 clear hk3
 go_wp2_with(refine Ai rfl 68 _ _ rfl _ _ rfl rfl 68 (ccs 0 0 0 0 0 0 0 0 0 false 0) HZ3.out (za.trans (congrArg some hC.out.1.symm)) hC.out.1.symm hC.out.2 ?_)
 exact Aj (v:=.agg C) (Ag results90 _ _ _ 68 _ (0,0) _ rfl (Ak _ _ _ _ _ _ HZ3.out) underlying68 rfl (za.trans (congrArg some hC.out.1.symm))) rfl ⟨rfl,zc hb3 (by omega) _⟩
theorem zg3(pc:Int)(p:Option Addr)(n c:Nat)(w:World)(I A B:Int)(rd s1 s2:Nat)(C:Array Value)(hC:Hid (C.size=11/\Ones C))
  (CF:∀W,Below w.heap.size w W->Calls prog 132 #[.int .u32 pc,.int .u32 A,.int .u32 B] W fun e w'=>e=.returned (.agg C)/\Below W.heap.size W w'):
  Calls prog 90 #[iv 47 rd s1 s2 I,.int .u32 pc,.int .u32 A,.int .u32 B,.slice p n c] w fun e w'=>e=.returned (.agg C)/\Below w.heap.size w w':=by
 go_enter func90,ntmps90
 go_wp2_with fail
 refine(CF _ (((Ac _ _).alloc (Ab _) _).alloc (by simp) _)).mono ?_
 rintro e w3 ⟨rfl,hk3⟩
 have HZ3:Hid (w3.heap[w.heap.size+1]?=some (.cells (ccs 0 0 0 0 0 0 0 0 0 false 0) 68 (0,0))):=(hk3.block _ (by simp)).trans (Ah _ _ _)
 have hb3:Below w.heap.size w w3:=(((Ac _ _).alloc (Ab _) _).alloc (by simp) _).trans (hk3.mono (by simp;omega))
 clear hk3
 go_wp2_with(refine Ai rfl 68 _ _ rfl _ _ rfl rfl 68 (ccs 0 0 0 0 0 0 0 0 0 false 0) HZ3.out (za.trans (congrArg some hC.out.1.symm)) hC.out.1.symm hC.out.2 ?_)
 exact Aj (v:=.agg C) (Ag results90 _ _ _ 68 _ (0,0) _ rfl (Ak _ _ _ _ _ _ HZ3.out) underlying68 rfl (za.trans (congrArg some hC.out.1.symm))) rfl ⟨rfl,zc hb3 (by omega) _⟩
theorem zlu(pc:Int)(p:Option Addr)(n c:Nat)(w:World)(I A B:Int)(rd s1 s2:Nat)(C:Array Value)(hC:Hid (C.size=11/\Ones C))
  (CF:∀W,Below w.heap.size w W->Calls prog 99 #[.int .u32 pc,.int .i64 6] W fun e w'=>e=.returned (.agg C)/\Below W.heap.size W w'):
  Calls prog 90 #[iv 48 rd s1 s2 I,.int .u32 pc,.int .u32 A,.int .u32 B,.slice p n c] w fun e w'=>e=.returned (.agg C)/\Below w.heap.size w w':=by
 go_enter func90,ntmps90
 go_wp2_with fail
 refine(CF _ (((Ac _ _).alloc (Ab _) _).alloc (by simp) _)).mono ?_
 rintro e w3 ⟨rfl,hk3⟩
 have HZ3:Hid (w3.heap[w.heap.size+1]?=some (.cells (ccs 0 0 0 0 0 0 0 0 0 false 0) 68 (0,0))):=(hk3.block _ (by simp)).trans (Ah _ _ _)
 have hb3:Below w.heap.size w w3:=(((Ac _ _).alloc (Ab _) _).alloc (by simp) _).trans (hk3.mono (by simp;omega))
 clear hk3
 go_wp2_with(refine Ai rfl 68 _ _ rfl _ _ rfl rfl 68 (ccs 0 0 0 0 0 0 0 0 0 false 0) HZ3.out (za.trans (congrArg some hC.out.1.symm)) hC.out.1.symm hC.out.2 ?_)
 exact Aj (v:=.agg C) (Ag results90 _ _ _ 68 _ (0,0) _ rfl (Ak _ _ _ _ _ _ HZ3.out) underlying68 rfl (za.trans (congrArg some hC.out.1.symm))) rfl ⟨rfl,zc hb3 (by omega) _⟩
end Go.Proofs.YtpiohehijkpghacGreatDoor
namespace Go.Proofs.YtpiohehijkpghacGreatDoor
open Go.RowKit
open Hy
theorem qa{w2s bs:Nat}{W w:World}{b j:Nat}{v:Value}(h:∀b,b<w2s->b≠bs->w.heap[b]?=W.heap[b]?)(hb:b<w2s)(hn:b≠bs)(hv:W.cell? ⟨b,j,none⟩=some v):w.cell? ⟨b,j,none⟩=some v:=
 (World.cell?_of_block (w:=W) (a:=⟨b,j,none⟩) (h b hb hn)).trans hv
theorem znw(pc:Int)(p:Option Addr)(n c:Nat)(w:World)(I A B M NX V:Int)(rd s1 s2:Nat)(C:Array Value)(hC:Hid (C.size=11/\Ones C))(h1:1<=M)(hM:M<11\/18<M)(hM2:M<46)
  (CX:∀W,Below w.heap.size w W->Calls prog 133 #[iv M rd s1 s2 I,.int .u32 pc,.int .u32 A,.int .u32 B] W fun e w'=>e=.returned (.int .u32 NX)/\Below W.heap.size W w')
  (CR:∀W,Below w.heap.size w W->Calls prog 134 #[iv M rd s1 s2 I,.int .u32 pc,.int .u32 A,.int .u32 B] W fun e w'=>e=.returned (.int .u32 V)/\Below W.heap.size W w')
  (CG:∀W,Calls prog 129 #[cv pc NX 0 0 0 0 0 0 0 false 0,.int .i64 rd,.int .u32 V] W fun e w'=>e=.returned (.agg C)/\Below W.heap.size W w'):
  Calls prog 90 #[iv M rd s1 s2 I,.int .u32 pc,.int .u32 A,.int .u32 B,.slice p n c] w fun e w'=>e=.returned (.agg C)/\Below w.heap.size w w':=by
 have q11:(M==11)=false:=beq_eq_false_iff_ne.2 (by omega)
 have q12:(M==12)=false:=beq_eq_false_iff_ne.2 (by omega)
 have q13:(M==13)=false:=beq_eq_false_iff_ne.2 (by omega)
 have q14:(M==14)=false:=beq_eq_false_iff_ne.2 (by omega)
 have q15:(M==15)=false:=beq_eq_false_iff_ne.2 (by omega)
 have q16:(M==16)=false:=beq_eq_false_iff_ne.2 (by omega)
 have q17:(M==17)=false:=beq_eq_false_iff_ne.2 (by omega)
 have q18:(M==18)=false:=beq_eq_false_iff_ne.2 (by omega)
 have q46:(M==46)=false:=beq_eq_false_iff_ne.2 (by omega)
 have q47:(M==47)=false:=beq_eq_false_iff_ne.2 (by omega)
 have q48:(M==48)=false:=beq_eq_false_iff_ne.2 (by omega)
 have ql:decide (M<1)=false:=decide_eq_false (by omega)
 have qg:decide ((48:Int)<M)=false:=decide_eq_false (by omega)
 clear hM hM2 h1
 go_enter func90,ntmps90
 go_wp2_with fail
 obtain⟨W,hW⟩:∃W:World,W=(w.alloc (.cells #[.int .i64 M,.int .i64 rd,.int .i64 s1,.int .i64 s2,.int .i32 I] 78)).alloc (.cells (ccs 0 0 0 0 0 0 0 0 0 false 0) 68):=⟨_,rfl⟩
 rw[<-hW]
 have r24:W.heap[w.heap.size]?=some (.cells #[.int .i64 M,.int .i64 rd,.int .i64 s1,.int .i64 s2,.int .i32 I] 78 (0,0)):=by rw[hW];exact heap_alloc2_old _ _ _
 have R38:Hid (W.heap[w.heap.size+1]?=some (.cells (ccs 0 0 0 0 0 0 0 0 0 false 0) 68 (0,0))):=by rw[hW];exact Ah _ _ _
 have hsz:w.heap.size+2<=W.heap.size:=by rw[hW];simp
 have hb:Below w.heap.size w W:=by rw[hW];exact((Ac _ _).alloc (Ab _) _).alloc (by simp) _
 have y0:=(An W w.heap.size 0 _ _ _ r24).trans rfl
 have y1:=(An W w.heap.size 1 _ _ _ r24).trans rfl
 have y2:=(An W w.heap.size 2 _ _ _ r24).trans rfl
 have y3:=(An W w.heap.size 3 _ _ _ r24).trans rfl
 have y4:=(An W w.heap.size 4 _ _ _ r24).trans rfl
 have a1:w.heap.size<w.heap.size+2:=by omega
 have a2:w.heap.size+1<w.heap.size+2:=by omega
 clear hW r24
 refine wp_region_held_drew (S:=fun w'=>∀b,b<w.heap.size+2->b≠w.heap.size+1->w'.heap[b]?=W.heap[b]?) (by kernel_rfl) (fun _ _ _=>rfl) (fun hH=>?_)
 refine Co.tI 0 (.int .u32 pc) ?_
 try simp only[Al,Aa,Ad,Ae]
 refine Co.tH 1 (.agg #[.int .i64 M,.int .i64 rd,.int .i64 s1,.int .i64 s2,.int .i32 I]) rfl (Or.inl ⟨by rfl,by intro w hSw;have hc0:=qa hSw a1 (by omega) y0;have hc1:=qa hSw a1 (by omega) y1;have hc2:=qa hSw a1 (by omega) y2;have hc3:=qa hSw a1 (by omega) y3;have hc4:=qa hSw a1 (by omega) y4;go_simp⟩) hH ?_
 try simp only[Al,Aa,Ad,Ae]
 refine Co.tI 2 (.int .u32 pc) ?_
 try simp only[Al,Aa,Ad,Ae]
 refine Co.tI 3 (.int .u32 A) ?_
 try simp only[Al,Aa,Ad,Ae]
 refine Co.tI 4 (.int .u32 B) ?_
 try simp only[Al,Aa,Ad,Ae]
 refine Co.tI 7 (.pointer (some ⟨w.heap.size,1,none⟩)) ?_
 try simp only[Al,Aa,Ad,Ae]
 refine Co.tH 8 (.int .i64 rd) rfl (Or.inl ⟨by rfl,by intro w hSw;have hc:=qa hSw a1 (by omega) y1;go_simp⟩) hH ?_
 try simp only[Al,Aa,Ad,Ae]
 refine Co.tH 9 (.agg #[.int .i64 M,.int .i64 rd,.int .i64 s1,.int .i64 s2,.int .i32 I]) rfl (Or.inl ⟨by rfl,by intro w hSw;have hc0:=qa hSw a1 (by omega) y0;have hc1:=qa hSw a1 (by omega) y1;have hc2:=qa hSw a1 (by omega) y2;have hc3:=qa hSw a1 (by omega) y3;have hc4:=qa hSw a1 (by omega) y4;go_simp⟩) hH ?_
 try simp only[Al,Aa,Ad,Ae]
 refine Co.tI 10 (.int .u32 pc) ?_
 try simp only[Al,Aa,Ad,Ae]
 refine Co.tI 11 (.int .u32 A) ?_
 try simp only[Al,Aa,Ad,Ae]
 refine Co.tI 12 (.int .u32 B) ?_
 try simp only[Al,Aa,Ad,Ae]
 refine Ap (rs:=[5]) (by kernel_rfl) (by simp) ?_
 refine Am rfl (fun K hK=>?_) Ao
 go_simp
 refine(CX _ hb.drew).mono ?_
 rintro e w3 ⟨rfl,hk3⟩
 have hB3:Below W.heap.size W w3:=zg hk3 (Ab _)
 go_wp2_with fail
 refine hK.out _ _ (fun b hb _=>hB3.block b (by omega)) (fun hH=>?_)
 clear hK K
 try simp only[Al,Aa,Ad,Ae]
 refine Co.tI 6 (cv pc NX 0 0 0 0 0 0 0 false 0) ?_
 try simp only[Al,Aa,Ad,Ae]
 refine Ap (rs:=[13]) (by kernel_rfl) (by simp) ?_
 refine Am rfl (fun K hK=>?_) Ao
 go_simp
 refine(CR _ (hb.trans (hB3.mono (by omega)))).mono ?_
 rintro e w4 ⟨rfl,hk4⟩
 have hB4:Below W.heap.size W w4:=xw hB3 hk4 (Ab _)
 go_wp2_with fail
 refine hK.out _ _ (fun b hb _=>hB4.block b (by omega)) (fun hH=>?_)
 clear hK K
 try simp only[Al,Aa,Ad,Ae]
 refine Ap (rs:=[14]) (by kernel_rfl) (by simp) ?_
 refine Am rfl (fun K hK=>?_) Ao
 go_simp
 refine(CG _).mono ?_
 rintro e w5 ⟨rfl,hk5⟩
 have hB5:Below W.heap.size W w5:=xw hB4 hk5 (Ab _)
 go_wp2_with fail
 refine hK.out _ _ (fun b hb _=>hB5.block b (by omega)) (fun hH=>?_)
 clear hK K
 try simp only[Al,Aa,Ad,Ae]
 refine Ap (rs:=[15]) (by kernel_rfl) (by simp) ?_
 refine Am rfl (fun K hK=>?_) Ao
 rw[if_pos (by rfl)]
 refine wp_store_row 68 _ _ rfl _ _ rfl rfl 68 (ccs 0 0 0 0 0 0 0 0 0 false 0) (zN hB5 (by omega) R38.out) (za.trans (congrArg some hC.out.1.symm)) hC.out.1.symm hC.out.2 ?_
 refine hK.out _ _ (fun b hb hn=>(setRow_other _ _ _ _ hn).trans (hB5.block b (by omega))) (fun hH=>?_)
 clear hK K
 refine wpAnyH_done (by kernel_rfl) ?_ _
 go_wp2_with fail
 exact Aj (v:=.agg C) (Ag results90 _ _ _ 68 _ (0,0) _ rfl (Ak _ _ _ _ _ _ (zN hB5 (by omega) R38.out)) underlying68 rfl (za.trans (congrArg some hC.out.1.symm))) rfl ⟨rfl,zc (hb.trans (hB5.mono (by omega))) (by omega) _⟩
abbrev cC(c:Cm):Array Value:=ccs c.pc c.next c.st c.ca c.rd c.val c.pl c.many c.data c.out c.told
abbrev cvC(c:Cm):Value:=.agg (cC c)
abbrev ivI(i:In):Value:=iv i.op i.rd i.s1 i.s2 i.im
structure InOk(i:In):Prop where
 lr:i.rd<32
 l1:i.s1<32
 l2:i.s2<32
 i0:-2147483648<=i.im
 i1:i.im<=2147483647
 o0:1<=i.op
 o1:i.op<=48
theorem qU(c:Cm):(cC c).size=11/\Ones (cC c):=⟨rfl,qq _ _ _ _ _ _ _ _ _ _ _⟩
structure Bys(w:World)(p:Option Addr)(n c:Nat)(f:Nat->Int):Prop where
 hn:n<=4096
 hnc:n<=c
 hm:Mem w p n f
 hf:∀i,i<n->0<=f i/\f i<=255
theorem Bys.below{w w':World}{p:Option Addr}{n c:Nat}{f:Nat->Int}(h:Bys w p n c f)(hb:Below w.heap.size w w'):Bys w' p n c f:=⟨h.hn,h.hnc,h.hm.below hb,h.hf⟩
theorem jp{w:World}{p:Option Addr}{n c:Nat}{f:Nat->Int}(o:Bys w p n c f)(op:Int)(a:Nat)(a1:(a:Int)<=4294967295)(ho:0<ldn op/\(a:Int)%ldn op=0/\(a:Int)+ldn op<=n):
  ∀W,Below w.heap.size w W->Calls prog 98 #[.slice p n c,.int .i64 op,.int .u32 a] W fun e w'=>e=.returned (.tuple #[.int .u32 (ldv op (fun i=>f (a+i))),.bool true])/\w'=W:=by
 have hn:=o.hn
 obtain⟨m,hm⟩:=Af (show 0<=ldn op by omega)
 have ho':=ho
 rw[hm]at ho'
 obtain⟨g,q,hp,hc⟩:=o.hm (by omega)
 have hf:∀i,i<m->0<=f (a+i)/\f (a+i)<=255:=fun i hi=>o.hf _ (by omega)
 intro W hW
 subst hp
 exact zdZ g q n c op a m _ hm (by omega) (by omega) (by omega) (by omega) (by omega) o.hnc W hf (Lies.part (hc.below hW) a m (by omega))
theorem xx{w:World}{p:Option Addr}{n c:Nat}{f:Nat->Int}(o:Bys w p n c f)(op:Int)(a:Nat)(a1:(a:Int)<=4294967295)(ho:¬(0<ldn op/\(a:Int)%ldn op=0/\(a:Int)+ldn op<=n)):
  ∀W,Below w.heap.size w W->Calls prog 98 #[.slice p n c,.int .i64 op,.int .u32 a] W fun e w'=>e=.returned (.tuple #[.int .u32 0,.bool false])/\w'=W:=by
 have hn:=o.hn
 exact fun W _=>zgg p n c op a (by omega) (by omega) (by omega) ho W
theorem xO{w:World}{p:Option Addr}{n c:Nat}{f:Nat->Int}(o:Bys w p n c f)(op:Int)(a K:Nat)(hK:stn op=(K:Int))(a1:(a:Int)<=4294967295)(ho:0<stn op/\(a:Int)%stn op=0/\(a:Int)+stn op<=n):
  ∀W,Calls prog 111 #[.slice p n c,.int .i64 op,.int .u32 a] W fun e w'=>e=.returned (.int .u32 K)/\w'=W:=fun W=>by
 have hn:=o.hn
 have h:=zam p n c op a (by omega) (by omega) (by omega) ho W
 rw[hK]at h
 exact h
theorem kX{w:World}{p:Option Addr}{n c:Nat}{f:Nat->Int}(o:Bys w p n c f)(op:Int)(a:Nat)(a1:(a:Int)<=4294967295)(ho:¬(0<stn op/\(a:Int)%stn op=0/\(a:Int)+stn op<=n)):
  ∀W,Calls prog 111 #[.slice p n c,.int .i64 op,.int .u32 a] W fun e w'=>e=.returned (.int .u32 0)/\w'=W:=fun W=>by
 have hn:=o.hn
 exact zgp p n c op a (by omega) (by omega) (by omega) ho W
theorem zU{n:Nat}{x m:Int}:fits n x m=true↔0<=x/\x%m=0/\x+m<=n:=by unfold fits;simp
theorem jL(pc nx v:Int)(rd:Nat)(W:World):
  Calls prog 129 #[cv pc nx 0 0 0 0 0 0 0 false 0,.int .i64 rd,.int .u32 v] W fun e w'=>e=.returned (cv pc nx 0 0 rd (if rd=0 then 0 else v) 0 0 0 false 0)/\Below W.heap.size W w':=by
 by_cases h:rd=0
 ·subst h
  exact zeg pc nx v W
 ·rw[if_neg h]
  exact zbY pc nx v rd (by simp;omega) W
theorem zfe(rd s1 s2:Nat)(I pc a b:Int)(p0:0<=pc)(p1:pc<=4294967295)(a0:0<=a)(a1:a<=4294967295)(w:World){p:Option Addr}{n c:Nat}{f:Nat->Int}(o:Bys w p n c f):
  Calls prog 90 #[iv 11 rd s1 s2 I,.int .u32 pc,.int .u32 a,.int .u32 b,.slice p n c] w fun e w'=>e=.returned (cvC (qc n f ⟨11,rd,s1,s2,I⟩ pc a))/\Below w.heap.size w w':=by
 obtain⟨q,hq⟩:=Af (show 0<=(a+I)%4294967296 by omega)
 have hpl:place ⟨11,rd,s1,s2,I⟩ a=(q:Int):=hq
 have q1:(q:Int)<=4294967295:=by omega
 by_cases ho:0<ldn 11/\(q:Int)%ldn 11=0/\(q:Int)+ldn 11<=n
 ·have CM:=jp o 11 q q1 ho
  rw[<-hq]at CM
  have e:qc n f ⟨11,rd,s1,s2,I⟩ pc a=onC pc rd (ldv 11 (fun i=>f (q+i))):=by
   unfold qc
   rw[hpl,if_pos (zU.2 ⟨by omega,ho.2⟩)]
   rfl
  rw[e]
  exact zeh pc p n c w I a b _ true rd s1 s2 _ (qU _) CM (fun W=>qx 11 I pc _ _ rd s1 s2 W (fun W=>zG pc p0 p1 W) _ _ (fun W=>jL pc _ _ rd W)) a0 a1
 ·have CM:=xx o 11 q q1 ho
  rw[<-hq]at CM
  have e:qc n f ⟨11,rd,s1,s2,I⟩ pc a=qj pc 3:=by
   unfold qc
   rw[hpl,if_neg (fun h=>ho ⟨by decide,(zU.1 h).2⟩)]
  rw[e]
  exact zeh pc p n c w I a b _ false rd s1 s2 _ (qU _) CM (fun W=>jg 11 rd s1 s2 I pc _ W) a0 a1
theorem zff(rd s1 s2:Nat)(I pc a b:Int)(p0:0<=pc)(p1:pc<=4294967295)(a0:0<=a)(a1:a<=4294967295)(w:World){p:Option Addr}{n c:Nat}{f:Nat->Int}(o:Bys w p n c f):
  Calls prog 90 #[iv 12 rd s1 s2 I,.int .u32 pc,.int .u32 a,.int .u32 b,.slice p n c] w fun e w'=>e=.returned (cvC (qc n f ⟨12,rd,s1,s2,I⟩ pc a))/\Below w.heap.size w w':=by
 obtain⟨q,hq⟩:=Af (show 0<=(a+I)%4294967296 by omega)
 have hpl:place ⟨12,rd,s1,s2,I⟩ a=(q:Int):=hq
 have q1:(q:Int)<=4294967295:=by omega
 by_cases ho:0<ldn 12/\(q:Int)%ldn 12=0/\(q:Int)+ldn 12<=n
 ·have CM:=jp o 12 q q1 ho
  rw[<-hq]at CM
  have e:qc n f ⟨12,rd,s1,s2,I⟩ pc a=onC pc rd (ldv 12 (fun i=>f (q+i))):=by
   unfold qc
   rw[hpl,if_pos (zU.2 ⟨by omega,ho.2⟩)]
   rfl
  rw[e]
  exact zei pc p n c w I a b _ true rd s1 s2 _ (qU _) CM (fun W=>qx 12 I pc _ _ rd s1 s2 W (fun W=>zG pc p0 p1 W) _ _ (fun W=>jL pc _ _ rd W)) a0 a1
 ·have CM:=xx o 12 q q1 ho
  rw[<-hq]at CM
  have e:qc n f ⟨12,rd,s1,s2,I⟩ pc a=qj pc 3:=by
   unfold qc
   rw[hpl,if_neg (fun h=>ho ⟨by decide,(zU.1 h).2⟩)]
  rw[e]
  exact zei pc p n c w I a b _ false rd s1 s2 _ (qU _) CM (fun W=>jg 12 rd s1 s2 I pc _ W) a0 a1
theorem zfg(rd s1 s2:Nat)(I pc a b:Int)(p0:0<=pc)(p1:pc<=4294967295)(a0:0<=a)(a1:a<=4294967295)(w:World){p:Option Addr}{n c:Nat}{f:Nat->Int}(o:Bys w p n c f):
  Calls prog 90 #[iv 13 rd s1 s2 I,.int .u32 pc,.int .u32 a,.int .u32 b,.slice p n c] w fun e w'=>e=.returned (cvC (qc n f ⟨13,rd,s1,s2,I⟩ pc a))/\Below w.heap.size w w':=by
 obtain⟨q,hq⟩:=Af (show 0<=(a+I)%4294967296 by omega)
 have hpl:place ⟨13,rd,s1,s2,I⟩ a=(q:Int):=hq
 have q1:(q:Int)<=4294967295:=by omega
 by_cases ho:0<ldn 13/\(q:Int)%ldn 13=0/\(q:Int)+ldn 13<=n
 ·have CM:=jp o 13 q q1 ho
  rw[<-hq]at CM
  have e:qc n f ⟨13,rd,s1,s2,I⟩ pc a=onC pc rd (ldv 13 (fun i=>f (q+i))):=by
   unfold qc
   rw[hpl,if_pos (zU.2 ⟨by omega,ho.2⟩)]
   rfl
  rw[e]
  exact zej pc p n c w I a b _ true rd s1 s2 _ (qU _) CM (fun W=>qx 13 I pc _ _ rd s1 s2 W (fun W=>zG pc p0 p1 W) _ _ (fun W=>jL pc _ _ rd W)) a0 a1
 ·have CM:=xx o 13 q q1 ho
  rw[<-hq]at CM
  have e:qc n f ⟨13,rd,s1,s2,I⟩ pc a=qj pc 3:=by
   unfold qc
   rw[hpl,if_neg (fun h=>ho ⟨by decide,(zU.1 h).2⟩)]
  rw[e]
  exact zej pc p n c w I a b _ false rd s1 s2 _ (qU _) CM (fun W=>jg 13 rd s1 s2 I pc _ W) a0 a1
theorem zfh(rd s1 s2:Nat)(I pc a b:Int)(p0:0<=pc)(p1:pc<=4294967295)(a0:0<=a)(a1:a<=4294967295)(w:World){p:Option Addr}{n c:Nat}{f:Nat->Int}(o:Bys w p n c f):
  Calls prog 90 #[iv 14 rd s1 s2 I,.int .u32 pc,.int .u32 a,.int .u32 b,.slice p n c] w fun e w'=>e=.returned (cvC (qc n f ⟨14,rd,s1,s2,I⟩ pc a))/\Below w.heap.size w w':=by
 obtain⟨q,hq⟩:=Af (show 0<=(a+I)%4294967296 by omega)
 have hpl:place ⟨14,rd,s1,s2,I⟩ a=(q:Int):=hq
 have q1:(q:Int)<=4294967295:=by omega
 by_cases ho:0<ldn 14/\(q:Int)%ldn 14=0/\(q:Int)+ldn 14<=n
 ·have CM:=jp o 14 q q1 ho
  rw[<-hq]at CM
  have e:qc n f ⟨14,rd,s1,s2,I⟩ pc a=onC pc rd (ldv 14 (fun i=>f (q+i))):=by
   unfold qc
   rw[hpl,if_pos (zU.2 ⟨by omega,ho.2⟩)]
   rfl
  rw[e]
  exact zek pc p n c w I a b _ true rd s1 s2 _ (qU _) CM (fun W=>qx 14 I pc _ _ rd s1 s2 W (fun W=>zG pc p0 p1 W) _ _ (fun W=>jL pc _ _ rd W)) a0 a1
 ·have CM:=xx o 14 q q1 ho
  rw[<-hq]at CM
  have e:qc n f ⟨14,rd,s1,s2,I⟩ pc a=qj pc 3:=by
   unfold qc
   rw[hpl,if_neg (fun h=>ho ⟨by decide,(zU.1 h).2⟩)]
  rw[e]
  exact zek pc p n c w I a b _ false rd s1 s2 _ (qU _) CM (fun W=>jg 14 rd s1 s2 I pc _ W) a0 a1
theorem zfi(rd s1 s2:Nat)(I pc a b:Int)(p0:0<=pc)(p1:pc<=4294967295)(a0:0<=a)(a1:a<=4294967295)(w:World){p:Option Addr}{n c:Nat}{f:Nat->Int}(o:Bys w p n c f):
  Calls prog 90 #[iv 15 rd s1 s2 I,.int .u32 pc,.int .u32 a,.int .u32 b,.slice p n c] w fun e w'=>e=.returned (cvC (qc n f ⟨15,rd,s1,s2,I⟩ pc a))/\Below w.heap.size w w':=by
 obtain⟨q,hq⟩:=Af (show 0<=(a+I)%4294967296 by omega)
 have hpl:place ⟨15,rd,s1,s2,I⟩ a=(q:Int):=hq
 have q1:(q:Int)<=4294967295:=by omega
 by_cases ho:0<ldn 15/\(q:Int)%ldn 15=0/\(q:Int)+ldn 15<=n
 ·have CM:=jp o 15 q q1 ho
  rw[<-hq]at CM
  have e:qc n f ⟨15,rd,s1,s2,I⟩ pc a=onC pc rd (ldv 15 (fun i=>f (q+i))):=by
   unfold qc
   rw[hpl,if_pos (zU.2 ⟨by omega,ho.2⟩)]
   rfl
  rw[e]
  exact zel pc p n c w I a b _ true rd s1 s2 _ (qU _) CM (fun W=>qx 15 I pc _ _ rd s1 s2 W (fun W=>zG pc p0 p1 W) _ _ (fun W=>jL pc _ _ rd W)) a0 a1
 ·have CM:=xx o 15 q q1 ho
  rw[<-hq]at CM
  have e:qc n f ⟨15,rd,s1,s2,I⟩ pc a=qj pc 3:=by
   unfold qc
   rw[hpl,if_neg (fun h=>ho ⟨by decide,(zU.1 h).2⟩)]
  rw[e]
  exact zel pc p n c w I a b _ false rd s1 s2 _ (qU _) CM (fun W=>jg 15 rd s1 s2 I pc _ W) a0 a1
theorem zc3(rd s1 s2:Nat)(I pc a b:Int)(p0:0<=pc)(p1:pc<=4294967295)(a0:0<=a)(a1:a<=4294967295)(b0:0<=b)(b1:b<=4294967295)(w:World){p:Option Addr}{n c:Nat}{f:Nat->Int}(o:Bys w p n c f):
  Calls prog 90 #[iv 16 rd s1 s2 I,.int .u32 pc,.int .u32 a,.int .u32 b,.slice p n c] w fun e w'=>e=.returned (cvC (doW ⟨16,rd,s1,s2,I⟩ pc a b n))/\Below w.heap.size w w':=by
 obtain⟨q,hq⟩:=Af (show 0<=(a+I)%4294967296 by omega)
 have hpl:place ⟨16,rd,s1,s2,I⟩ a=(q:Int):=hq
 have q1:(q:Int)<=4294967295:=by omega
 have hs:sts ⟨16,rd,s1,s2,I⟩=true:=rfl
 by_cases ho:0<stn 16/\(q:Int)%stn 16=0/\(q:Int)+stn 16<=n
 ·have CM:=xO o 16 q 1 rfl q1 ho
  rw[<-hq]at CM
  have e:doW ⟨16,rd,s1,s2,I⟩ pc a b n=⟨pc,(pc+4)%4294967296,0,0,0,0,(a+I)%4294967296,1,b%p256 1,false,0⟩:=by
   unfold doW
   rw[if_pos hs,if_pos (zU.2 (by rw[hpl];exact⟨by omega,ho.2⟩))]
   rfl
  rw[e]
  exact zb3 pc p n c w I a b rd s1 s2 _ (qU _) (fun W hW=>kW 16 rd s1 s2 I pc a b _ _ 1 (by omega) p n c a0 a1 W CM (fun W=>zG pc p0 p1 W) (fun W=>kV b 1 (by omega) b0 b1 W))
 ·have CM:=kX o 16 q q1 ho
  rw[<-hq]at CM
  have e:doW ⟨16,rd,s1,s2,I⟩ pc a b n=qj pc 4:=by
   unfold doW
   rw[if_pos hs,if_neg (fun h=>ho (by rw[hpl]at h;exact⟨by decide,(zU.1 h).2⟩))]
  rw[e]
  exact zb3 pc p n c w I a b rd s1 s2 _ (qU _) (fun W hW=>vu 16 rd s1 s2 I pc a b p n c a0 a1 W CM)
theorem zc4(rd s1 s2:Nat)(I pc a b:Int)(p0:0<=pc)(p1:pc<=4294967295)(a0:0<=a)(a1:a<=4294967295)(b0:0<=b)(b1:b<=4294967295)(w:World){p:Option Addr}{n c:Nat}{f:Nat->Int}(o:Bys w p n c f):
  Calls prog 90 #[iv 17 rd s1 s2 I,.int .u32 pc,.int .u32 a,.int .u32 b,.slice p n c] w fun e w'=>e=.returned (cvC (doW ⟨17,rd,s1,s2,I⟩ pc a b n))/\Below w.heap.size w w':=by
 obtain⟨q,hq⟩:=Af (show 0<=(a+I)%4294967296 by omega)
 have hpl:place ⟨17,rd,s1,s2,I⟩ a=(q:Int):=hq
 have q1:(q:Int)<=4294967295:=by omega
 have hs:sts ⟨17,rd,s1,s2,I⟩=true:=rfl
 by_cases ho:0<stn 17/\(q:Int)%stn 17=0/\(q:Int)+stn 17<=n
 ·have CM:=xO o 17 q 2 rfl q1 ho
  rw[<-hq]at CM
  have e:doW ⟨17,rd,s1,s2,I⟩ pc a b n=⟨pc,(pc+4)%4294967296,0,0,0,0,(a+I)%4294967296,2,b%p256 2,false,0⟩:=by
   unfold doW
   rw[if_pos hs,if_pos (zU.2 (by rw[hpl];exact⟨by omega,ho.2⟩))]
   rfl
  rw[e]
  exact zb4 pc p n c w I a b rd s1 s2 _ (qU _) (fun W hW=>kW 17 rd s1 s2 I pc a b _ _ 2 (by omega) p n c a0 a1 W CM (fun W=>zG pc p0 p1 W) (fun W=>kV b 2 (by omega) b0 b1 W))
 ·have CM:=kX o 17 q q1 ho
  rw[<-hq]at CM
  have e:doW ⟨17,rd,s1,s2,I⟩ pc a b n=qj pc 4:=by
   unfold doW
   rw[if_pos hs,if_neg (fun h=>ho (by rw[hpl]at h;exact⟨by decide,(zU.1 h).2⟩))]
  rw[e]
  exact zb4 pc p n c w I a b rd s1 s2 _ (qU _) (fun W hW=>vu 17 rd s1 s2 I pc a b p n c a0 a1 W CM)
theorem zc5(rd s1 s2:Nat)(I pc a b:Int)(p0:0<=pc)(p1:pc<=4294967295)(a0:0<=a)(a1:a<=4294967295)(b0:0<=b)(b1:b<=4294967295)(w:World){p:Option Addr}{n c:Nat}{f:Nat->Int}(o:Bys w p n c f):
  Calls prog 90 #[iv 18 rd s1 s2 I,.int .u32 pc,.int .u32 a,.int .u32 b,.slice p n c] w fun e w'=>e=.returned (cvC (doW ⟨18,rd,s1,s2,I⟩ pc a b n))/\Below w.heap.size w w':=by
 obtain⟨q,hq⟩:=Af (show 0<=(a+I)%4294967296 by omega)
 have hpl:place ⟨18,rd,s1,s2,I⟩ a=(q:Int):=hq
 have q1:(q:Int)<=4294967295:=by omega
 have hs:sts ⟨18,rd,s1,s2,I⟩=true:=rfl
 by_cases ho:0<stn 18/\(q:Int)%stn 18=0/\(q:Int)+stn 18<=n
 ·have CM:=xO o 18 q 4 rfl q1 ho
  rw[<-hq]at CM
  have e:doW ⟨18,rd,s1,s2,I⟩ pc a b n=⟨pc,(pc+4)%4294967296,0,0,0,0,(a+I)%4294967296,4,b%p256 4,false,0⟩:=by
   unfold doW
   rw[if_pos hs,if_pos (zU.2 (by rw[hpl];exact⟨by omega,ho.2⟩))]
   rfl
  rw[e]
  exact zb5 pc p n c w I a b rd s1 s2 _ (qU _) (fun W hW=>kW 18 rd s1 s2 I pc a b _ _ 4 (by omega) p n c a0 a1 W CM (fun W=>zG pc p0 p1 W) (fun W=>kV b 4 (by omega) b0 b1 W))
 ·have CM:=kX o 18 q q1 ho
  rw[<-hq]at CM
  have e:doW ⟨18,rd,s1,s2,I⟩ pc a b n=qj pc 4:=by
   unfold doW
   rw[if_pos hs,if_neg (fun h=>ho (by rw[hpl]at h;exact⟨by decide,(zU.1 h).2⟩))]
  rw[e]
  exact zb5 pc p n c w I a b rd s1 s2 _ (qU _) (fun W hW=>vu 18 rd s1 s2 I pc a b p n c a0 a1 W CM)
theorem zjh:∀m,m<28->19<=m->itab.getD m 0=opn m:=by decide
theorem zji:∀m,m<46->5<=m->¬(19<=m/\m<=27)->itab.getD m 0=0:=by decide
theorem znx:∀m:Nat,m<28->19<=m->(opn m != 0)=true:=by decide
theorem zg4(i:In)(h1:1<=i.op)(h2:i.op<46)(pc a b:Int)(p0:0<=pc)(p1:pc<=4294967295)(a0:0<=a)(a1:a<=4294967295)(b0:0<=b)(b1:b<=4294967295)(W:World):
  Calls prog 133 #[ivI i,.int .u32 pc,.int .u32 a,.int .u32 b] W fun e w'=>e=.returned (.int .u32 (nxW i pc a b))/\Below W.heap.size W w':=by
 obtain⟨op,rd,s1,s2,I⟩:=i
 have HB:=fun W=>zgl op a b a0 a1 b0 b1 W
 unfold nxW
 simp only[]at h1 h2⊢
 by_cases e3:op=3
 ·subst e3
  rw[if_pos rfl]
  exact zgZ rd s1 s2 I pc a b p0 p1 W
 ·rw[if_neg e3]
  by_cases e4:op=4
  ·subst e4
   rw[if_pos rfl]
   exact zfa rd s1 s2 I pc a b p0 p1 a0 a1 (fun W=>by have h:=HB W;rwa [holds_none _ _ _ (by omega) (by omega) (by omega) (by omega) (by omega) (by omega)]at h) W
  ·rw[if_neg e4]
   cases hb:holds op a b with
   |true=>
    rw[hb]at HB
    rw[if_pos rfl]
    exact zjc op rd s1 s2 I pc a b p0 p1 (beq_eq_false_iff_ne.2 e3) HB W
   |false=>
    rw[hb]at HB
    rw[if_neg (by decide)]
    exact zjd op rd s1 s2 I pc a b p0 p1 (beq_eq_false_iff_ne.2 e3) (beq_eq_false_iff_ne.2 e4) HB W
theorem zc6(i:In)(h1:1<=i.op)(h2:i.op<46)(pc a b:Int)(p0:0<=pc)(p1:pc<=4294967295)(a0:0<=a)(a1:a<=4294967295)(b0:0<=b)(b1:b<=4294967295)(W:World)(hT2:Tab2 W):
  Calls prog 134 #[ivI i,.int .u32 pc,.int .u32 a,.int .u32 b] W fun e w'=>e=.returned (.int .u32 (rkW i pc a b))/\Below W.heap.size W w':=by
 obtain⟨op,rd,s1,s2,I⟩:=i
 unfold rkW
 simp only[]at h1 h2⊢
 by_cases e1:op=1
 ·subst e1;rw[if_pos rfl];exact zcZ rd s1 s2 I pc a b W
 ·rw[if_neg e1]
  by_cases e2:op=2
  ·subst e2;rw[if_pos rfl];exact za6 rd s1 s2 I pc a b p0 p1 W
  ·rw[if_neg e2]
   by_cases e3:op=3
   ·subst e3;rw[if_pos (.inl rfl)];exact zc0 rd s1 s2 I pc a b p0 p1 W
   ·by_cases e4:op=4
    ·subst e4;rw[if_pos (.inr rfl)];exact zbZ rd s1 s2 I pc a b p0 p1 W
    ·rw[if_neg (by omega)]
     obtain⟨m,hm⟩:=Af (show 0<=op by omega)
     subst hm
     by_cases e5:19<=(m:Int)/\(m:Int)<=27
     ·rw[if_pos e5]
      exact zc1 m rd s1 s2 I pc a b (opn m) _ (by omega) (by omega) (zjh m (by omega) (by omega)) (znx m (by omega) (by omega)) (fun W=>zgk (opn m) a (I%4294967296) a0 a1 (by omega) (by omega) W) W hT2
     ·rw[if_neg e5]
      exact zc2 m rd s1 s2 I pc a b _ (by omega) (by omega) (zji m (by omega) (by omega) (by omega)) (fun W=>zgk m a b a0 a1 b0 b1 W) W hT2
theorem zg5(i:In)(hi:InOk i)(pc a b:Int)(p0:0<=pc)(p1:pc<=4294967295)(a0:0<=a)(a1:a<=4294967295)(b0:0<=b)(b1:b<=4294967295)(w:World){p:Option Addr}{n c:Nat}{f:Nat->Int}(o:Bys w p n c f)(hT2:Tab2 w):
  Calls prog 90 #[ivI i,.int .u32 pc,.int .u32 a,.int .u32 b,.slice p n c] w fun e w'=>e=.returned (cvC (allW n f i pc a b))/\Below w.heap.size w w':=by
 obtain⟨op,rd,s1,s2,I⟩:=i
 have o0:1<=op:=hi.o0
 have o1:op<=48:=hi.o1
 by_cases hl:11<=op/\op<=15
 ·have e:allW n f ⟨op,rd,s1,s2,I⟩ pc a b=qc n f ⟨op,rd,s1,s2,I⟩ pc a:=by
   unfold allW
   refine if_pos ?_
   show ldn op≠0
   rcases(by omega:op=11\/op=12\/op=13\/op=14\/op=15)with rfl|rfl|rfl|rfl|rfl<;>decide
  rw[e]
  rcases(by omega:op=11\/op=12\/op=13\/op=14\/op=15)with rfl|rfl|rfl|rfl|rfl
  ·exact zfe rd s1 s2 I pc a b p0 p1 a0 a1 w o
  ·exact zff rd s1 s2 I pc a b p0 p1 a0 a1 w o
  ·exact zfg rd s1 s2 I pc a b p0 p1 a0 a1 w o
  ·exact zfh rd s1 s2 I pc a b p0 p1 a0 a1 w o
  ·exact zfi rd s1 s2 I pc a b p0 p1 a0 a1 w o
 ·have e:allW n f ⟨op,rd,s1,s2,I⟩ pc a b=doW ⟨op,rd,s1,s2,I⟩ pc a b n:=by
   unfold allW
   refine if_neg ?_
   show¬(ldn op≠0)
   unfold ldn
   rw[if_neg (by omega),if_neg (by omega),if_neg (by omega)]
   exact fun h=>h rfl
  rw[e]
  by_cases hs:16<=op/\op<=18
  ·rcases(by omega:op=16\/op=17\/op=18)with rfl|rfl|rfl
   ·exact zc3 rd s1 s2 I pc a b p0 p1 a0 a1 b0 b1 w o
   ·exact zc4 rd s1 s2 I pc a b p0 p1 a0 a1 b0 b1 w o
   ·exact zc5 rd s1 s2 I pc a b p0 p1 a0 a1 b0 b1 w o
  ·have hs':¬sts ⟨op,rd,s1,s2,I⟩=true:=by unfold sts;simpa using hs
   unfold doW
   rw[if_neg hs']
   by_cases e46:op=46
   ·subst e46
    rw[if_pos rfl]
    exact zlt pc p n c w I a b rd s1 s2 _ (qU _) (fun W _=>zG pc p0 p1 W)
   ·rw[if_neg e46]
    by_cases e47:op=47
    ·subst e47
     rw[if_pos rfl]
     by_cases z0:a=0
     ·subst z0
      rw[if_pos rfl]
      exact zg3 pc p n c w I 0 b rd s1 s2 _ (qU _) (fun W _=>zlp pc b W)
     ·rw[if_neg z0]
      by_cases z1:a=1
      ·subst z1
       rw[if_pos rfl]
       exact zg3 pc p n c w I 1 b rd s1 s2 _ (qU _) (fun W _=>zlo pc b _ W (fun W=>zG pc p0 p1 W))
      ·rw[if_neg z1]
       exact zg3 pc p n c w I a b rd s1 s2 _ (qU _) (fun W _=>zlq pc a b (beq_eq_false_iff_ne.2 z0) (beq_eq_false_iff_ne.2 z1) W)
    ·rw[if_neg e47]
     by_cases e48:op=48
     ·subst e48
      rw[if_pos rfl]
      exact zlu pc p n c w I a b rd s1 s2 _ (qU _) (fun W _=>jo pc 6 W)
     ·rw[if_neg e48]
      exact znw pc p n c w I a b op _ _ rd s1 s2 _ (qU _) o0 (by omega) (by omega) (fun W hW=>zg4 ⟨op,rd,s1,s2,I⟩ o0 (by show op<46;omega) pc a b p0 p1 a0 a1 b0 b1 W) (fun W hW=>zc6 ⟨op,rd,s1,s2,I⟩ o0 (by show op<46;omega) pc a b p0 p1 a0 a1 b0 b1 W (hT2.below hW hT2.size)) (fun W=>jL pc _ _ rd W)
theorem zat(i:In)(w:World):
  Calls prog 100 #[ivI i] w fun e w'=>e=.returned (.tuple #[.int .i64 (ra i),.int .i64 (rb i)])/\Below w.heap.size w w':=by
 obtain⟨op,rd,s1,s2,I⟩:=i
 unfold ra rb
 simp only[]
 by_cases h:op=47
 ·subst h
  go_enter func100,ntmps100
  go_wp2
  go_ret2
  exact⟨rfl,(Ac _ _).alloc (Ab _) _⟩
 ·have hq:(op==47)=false:=beq_eq_false_iff_ne.2 h
  rw[if_neg h,if_neg h]
  go_enter func100,ntmps100
  go_wp2
  go_region
  go_wp2
  go_ret2
  exact⟨rfl,((Ac _ _).alloc (Ab _) _).drew⟩
end Go.Proofs.YtpiohehijkpghacGreatDoor
