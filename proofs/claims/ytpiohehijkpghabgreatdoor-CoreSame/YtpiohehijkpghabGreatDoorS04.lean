/- From the row's list to the table's cells: the variable holds the forms as the program's text lays them. -/
import Derived.Deep.DeepCutAuto
import Derived.Deep.DeepMust
import Derived.OpenShut
import Derived.ProofKit
import Derived.Lib.LaidTab
import Derived.Deep.DeepHandedRow
import Derived.Test.YtpiohehijkpghabGreatDoorS03
import Derived.Test.YtpiohehijkpghabGreatDoorS01
import Derived.Test.YtpiohehijkpghabGreatDoorS02
set_option maxRecDepth 100000
set_option maxHeartbeats 2000000
set_option linter.unusedVariables false
open Go.Proofs.Tryz
namespace Go.Proofs.YtpiohehijkpghabGreatDoor
open Go.RowKit
open Hy
attribute [local go_sem ↓] Go.wp_at_zero Go.wp_at_succ
theorem yQ(n:Int):IntKind.i64.wrap n=wrap64 n:=by
 simp[IntKind.wrap,IntKind.bits,IntKind.signed,wrap64]
 try omega
theorem res5{w w':World}{o:Obj}{t:TypeId}(hk:Below ((w.alloc o).alloc (.cells #[.int .i64 0,.int .i64 0,.int .i64 0,.int .i64 0,.int .i32 0] t)).drew.heap.size ((w.alloc o).alloc (.cells #[.int .i64 0,.int .i64 0,.int .i64 0,.int .i64 0,.int .i32 0] t)).drew w'):
  w'.cell? ⟨w.heap.size+1,0,none⟩=some (.int .i64 0)/\w'.cell? ⟨w.heap.size+1,1,none⟩=some (.int .i64 0)/\w'.cell? ⟨w.heap.size+1,2,none⟩=some (.int .i64 0)/\w'.cell? ⟨w.heap.size+1,3,none⟩=some (.int .i64 0)/\w'.cell? ⟨w.heap.size+1,4,none⟩=some (.int .i32 0)
  /\w'.frozen? ⟨w.heap.size+1,0,none⟩=false/\w'.frozen? ⟨w.heap.size+1,1,none⟩=false/\w'.frozen? ⟨w.heap.size+1,2,none⟩=false/\w'.frozen? ⟨w.heap.size+1,3,none⟩=false/\w'.frozen? ⟨w.heap.size+1,4,none⟩=false:=by
 obtain⟨hc,hf⟩:=bcell hk
 simp only[hc _ _ (show w.heap.size+1<_ by simp),hf _ _ (show w.heap.size+1<_ by simp)]
 simp[go_sem]
theorem zi2(c:Nat->Int)(n x:Int)(x0:0<=x)(x1:x<=4294967295)
  (hb:∀j,1<=j->0<=c j/\c j<=31) (w:World):
  Calls prog 145 #[fv c,.int .i64 n,.int .u32 x] w fun e w'=>e=.returned (.agg #[.int .i64 n,.int .i64 (rrg x 128 (c 1)),.int .i64 (rrg x 32768 (c 2)),.int .i64 (rrg x 1048576 (c 3)),.int .i32 (rim c x)])/\Below w.heap.size w w':=by
 go_enter func145,ntmps145
 go_wp2_with fail
 go_region_held3 (fun w'=>w'.cell? ⟨w.heap.size,0,none⟩=some (.int .u32 (c 0))/\w'.cell? ⟨w.heap.size,1,none⟩=some (.int .u32 (c 1))/\w'.cell? ⟨w.heap.size,2,none⟩=some (.int .u32 (c 2))/\w'.cell? ⟨w.heap.size,3,none⟩=some (.int .u32 (c 3))/\w'.cell? ⟨w.heap.size,4,none⟩=some (.int .u32 (c 4))/\w'.cell? ⟨w.heap.size,5,none⟩=some (.int .u32 (c 5))/\w'.cell? ⟨w.heap.size,6,none⟩=some (.int .u32 (c 6))/\w'.cell? ⟨w.heap.size,7,none⟩=some (.int .u32 (c 7))/\w'.cell? ⟨w.heap.size,8,none⟩=some (.int .u32 (c 8))/\w'.cell? ⟨w.heap.size,9,none⟩=some (.int .u32 (c 9))/\w'.cell? ⟨w.heap.size,10,none⟩=some (.int .u32 (c 10))/\w'.cell? ⟨w.heap.size,11,none⟩=some (.int .u32 (c 11))/\w'.cell? ⟨w.heap.size,12,none⟩=some (.int .u32 (c 12))/\w'.cell? ⟨w.heap.size,13,none⟩=some (.int .u32 (c 13))/\w'.cell? ⟨w.heap.size,14,none⟩=some (.int .u32 (c 14))/\w'.cell? ⟨w.heap.size,15,none⟩=some (.int .u32 (c 15))/\w'.cell? ⟨w.heap.size,16,none⟩=some (.int .u32 (c 16))) (first|go_keep|(obtain⟨hc,hf⟩:=bcell hk;refine⟨?_,?_,?_,?_,?_,?_,?_,?_,?_,?_,?_,?_,?_,?_,?_,?_,?_⟩<;>(rw[hc _ _ (by simp;omega)];go_keep))) ((go_at_call 165;refine(zc0 c x x0 x1 hb _).mono ?_;rintro e w' ⟨rfl,hk⟩;obtain⟨r0,r1,r2,r3,r4,z0,z1,z2,z3,z4⟩:=res5 hk))
 have hs:=hk.size
 simp at hs
 go_wp2
 refine bodyPost_ret (v:=.agg #[.int .i64 n,.int .i64 (rrg x 128 (c 1)),.int .i64 (rrg x 32768 (c 2)),.int .i64 (rrg x 1048576 (c 3)),.int .i32 (rim c x)]) ?_ rfl ⟨rfl,?_⟩
 ·simp[results,results145,go_sem,rrg,r0,r1,r2,r3,r4]
  exact⟨yQ _,yQ _,yQ _⟩
 ·have hbase:Below w.heap.size w w':=(((Below.refl _ _).alloc (Nat.le_refl _) _).alloc (by simp) _).drew.trans (hk.mono (by simp;omega))
  repeat(first|exact hbase|refine Below.drew ?_|refine Below.setCell ?_ (by simp) _)
end Go.Proofs.YtpiohehijkpghabGreatDoor
namespace Go.Proofs.YtpiohehijkpghabGreatDoor
open Go.RowKit
open Hy
def Tab(w:World):Prop:=∀i,i<153->w.cell? ⟨1,i,none⟩=some (.int .u32 (ftab.getD i 0))
theorem Tab.size{w:World}(h:Tab w):1<w.heap.size:=World.block_lt_of_cell? _ _ (h 0 (by omega))
theorem Tab.below{w w':World}{B:Nat}(h:Tab w)(hb:Below B w w')(hB:1<B):Tab w':=
 fun i hi=>(hb.cell (p:=⟨1,i,none⟩) hB).trans (h i hi)
theorem Tab.alloc{w:World}(h:Tab w)(o:Obj):Tab (w.alloc o):=
 h.below ((Below.refl w.heap.size w).alloc (Nat.le_refl _) o) h.size
theorem Tab.form{w:World}(h:Tab w)(f:Nat)(hf:f<9)(j:Nat)(hj:j<17):w.cell? ⟨1,f*17+j,none⟩=some (.int .u32 (fm f j)):=by
 rw[h _ (by omega),fm,if_pos hj]
theorem ix34(n:Nat)(hn:n<49)(w:World):(Instr.index 198 (.agg kc) (.int .i64 (n:Int))).run prog w=.ok (.agg #[.int .i64 (kn n:Int),.int .u32 (kb n)]) w:=
 match n,hn with
 |0,_=>by kernel_rfl
 |1,_=>by kernel_rfl
 |2,_=>by kernel_rfl
 |3,_=>by kernel_rfl
 |4,_=>by kernel_rfl
 |5,_=>by kernel_rfl
 |6,_=>by kernel_rfl
 |7,_=>by kernel_rfl
 |8,_=>by kernel_rfl
 |9,_=>by kernel_rfl
 |10,_=>by kernel_rfl
 |11,_=>by kernel_rfl
 |12,_=>by kernel_rfl
 |13,_=>by kernel_rfl
 |14,_=>by kernel_rfl
 |15,_=>by kernel_rfl
 |16,_=>by kernel_rfl
 |17,_=>by kernel_rfl
 |18,_=>by kernel_rfl
 |19,_=>by kernel_rfl
 |20,_=>by kernel_rfl
 |21,_=>by kernel_rfl
 |22,_=>by kernel_rfl
 |23,_=>by kernel_rfl
 |24,_=>by kernel_rfl
 |25,_=>by kernel_rfl
 |26,_=>by kernel_rfl
 |27,_=>by kernel_rfl
 |28,_=>by kernel_rfl
 |29,_=>by kernel_rfl
 |30,_=>by kernel_rfl
 |31,_=>by kernel_rfl
 |32,_=>by kernel_rfl
 |33,_=>by kernel_rfl
 |34,_=>by kernel_rfl
 |35,_=>by kernel_rfl
 |36,_=>by kernel_rfl
 |37,_=>by kernel_rfl
 |38,_=>by kernel_rfl
 |39,_=>by kernel_rfl
 |40,_=>by kernel_rfl
 |41,_=>by kernel_rfl
 |42,_=>by kernel_rfl
 |43,_=>by kernel_rfl
 |44,_=>by kernel_rfl
 |45,_=>by kernel_rfl
 |46,_=>by kernel_rfl
 |47,_=>by kernel_rfl
 |48,_=>by kernel_rfl
 |k+49,h=>by omega
theorem below_drewN{B:Nat}{a w:World}(h:Below B a w)(n:Nat):Below B a (w.drewN n):=⟨h.os,h.tape,h.output,h.size,h.block⟩
theorem zpK{wr w1:World}{o:Obj}{nq B:Nat}(hk:Below ((wr.alloc o).drewN nq).heap.size ((wr.alloc o).drewN nq) w1)(hB:B<wr.heap.size)
  (r0:wr.cell? ⟨B,0,none⟩=some (.int .i64 0)) (r1:wr.cell? ⟨B,1,none⟩=some (.int .i64 0)) (r2:wr.cell? ⟨B,2,none⟩=some (.int .i64 0)) (r3:wr.cell? ⟨B,3,none⟩=some (.int .i64 0)) (r4:wr.cell? ⟨B,4,none⟩=some (.int .i32 0))
  (z:∀j,wr.frozen? ⟨B,j,none⟩=false):
  w1.cell? ⟨B,0,none⟩=some (.int .i64 0)/\w1.cell? ⟨B,1,none⟩=some (.int .i64 0)/\w1.cell? ⟨B,2,none⟩=some (.int .i64 0)/\w1.cell? ⟨B,3,none⟩=some (.int .i64 0)/\w1.cell? ⟨B,4,none⟩=some (.int .i32 0)/\∀j,w1.frozen? ⟨B,j,none⟩=false:=by
 have hb:Below wr.heap.size wr w1:=(below_drewN ((Below.refl _ _).alloc (Nat.le_refl _) o) nq).trans (hk.mono (by simp))
 obtain⟨hc,hf⟩:=bcell hb
 exact⟨(hc _ _ hB).trans r0,(hc _ _ hB).trans r1,(hc _ _ hB).trans r2,(hc _ _ hB).trans r3,(hc _ _ hB).trans r4,fun j=>(hf _ _ hB).trans (z j)⟩
abbrev insv(n:Nat)(x:Int):Value:=iv n (rrg x 128 (fm (kn n) 1)) (rrg x 32768 (fm (kn n) 2)) (rrg x 1048576 (fm (kn n) 3)) (rim (fm (kn n)) x)
theorem ze2(x:Int)(x0:0<=x)(x1:x<=4294967295)(w:World)(ht:Tab w):
  Calls prog 114 #[.int .u32 x] w fun e w'=>((∃n:Nat,1<=n/\n<=48/\hit n x=true/\(∀m,1<=m->m<n->hit m x=false)/\e=.returned (.tuple #[insv n x,.bool true]))\/((∀m,1<=m->m<=48->hit m x=false)/\e=.returned (.tuple #[iv 0 0 0 0 0,.bool false])))/\Below w.heap.size w w':=by
 go_enter func114,ntmps114
 go_wp2_with(go_at_call 144;refine(zgs _).mono ?_;rintro e w1 ⟨rfl,hk⟩)
 go_loopw [4,5,7] (fun o p i wl=>∃n:Nat,n<=49/\i=.int .i64 n/\(∀m,1<=m->m<n->hit m x=false)/\Below (w.heap.size+1) (w.alloc (.cells #[.int .i64 0,.int .i64 0,.int .i64 0,.int .i64 0,.int .i32 0] 77)) wl/\w.heap.size+1<=wl.heap.size) (fun _ _ k _=>49-(intOf k).toNat)
 case atStart=>
  have:=hk.size
  simp at this
  exact⟨0,by omega,rfl,fun m h1 h2=>by omega,hk.mono (by simp),this⟩
 case round=>
  clear hk w1
  obtain⟨n,hn,rfl,hno,hbe,hsz⟩:=hrel
  have htr:Tab wr:=(ht.alloc _).below hbe (by have:=ht.size;omega)
  have hbig:=htr.size
  obtain⟨hc,hf⟩:=bcell hbe
  have r0:wr.cell? ⟨w.heap.size,0,none⟩=some (.int .i64 0):=by rw[hc _ _ (by omega)];simp[go_sem]
  have r1:wr.cell? ⟨w.heap.size,1,none⟩=some (.int .i64 0):=by rw[hc _ _ (by omega)];simp[go_sem]
  have r2:wr.cell? ⟨w.heap.size,2,none⟩=some (.int .i64 0):=by rw[hc _ _ (by omega)];simp[go_sem]
  have r3:wr.cell? ⟨w.heap.size,3,none⟩=some (.int .i64 0):=by rw[hc _ _ (by omega)];simp[go_sem]
  have r4:wr.cell? ⟨w.heap.size,4,none⟩=some (.int .i32 0):=by rw[hc _ _ (by omega)];simp[go_sem]
  have z:∀j,wr.frozen? ⟨w.heap.size,j,none⟩=false:=by intro j;rw[hf _ _ (by omega)];simp[go_sem]
  clear hc hf
  have h0:=ht.size
  have hw0:0<wr.heap.size:=by omega
  by_cases hlt:n<49
  ·by_cases hn0:n=0
   ·subst hn0
    have ix:∀w,(Instr.index 198 (.agg kc) (.int .i64 0)).run prog w=.ok (.agg #[.int .i64 0,.int .u32 0]) w:=fun w=>ix34 0 (by omega) w
    go_wp2_with fail
    go_quiet(fail)
    go_wp2_with fail
    refine⟨⟨1,by omega,by go_num,fun m h1 h2=>by omega,?_,?_⟩,by simp[intOf]⟩
    ·exact below_drewN (hbe.alloc hsz _) _
    ·simp;omega
   ·have ix:=ix34 n hlt
    obtain⟨hF9,_,hF1⟩:=zgc n hlt
    obtain⟨F,hF⟩:∃F,F=kn n:=⟨_,rfl⟩
    have hF1':=hF1 (by omega)
    clear hF1
    rw[<-hF]at ix hF9 hF1'
    have HF:Hid (F=kn n):=hF
    clear hF
    have hne:((F:Int) != 0)=true:=by simp;omega
    have b1:(0:Int)<=(F:Int):=by omega
    have b2:(F:Int)<9:=by omega
    have f0':wr.cell? ⟨1,F*17,none⟩=some (.int .u32 (fm F 0)):=htr.form F hF9 0 (by omega)
    have f1:=htr.form F hF9 1 (by omega)
    have f2:=htr.form F hF9 2 (by omega)
    have f3:=htr.form F hF9 3 (by omega)
    have f4:=htr.form F hF9 4 (by omega)
    have f5:=htr.form F hF9 5 (by omega)
    have f6:=htr.form F hF9 6 (by omega)
    have f7:=htr.form F hF9 7 (by omega)
    have f8:=htr.form F hF9 8 (by omega)
    have f9:=htr.form F hF9 9 (by omega)
    have f10:=htr.form F hF9 10 (by omega)
    have f11:=htr.form F hF9 11 (by omega)
    have f12:=htr.form F hF9 12 (by omega)
    have f13:=htr.form F hF9 13 (by omega)
    have f14:=htr.form F hF9 14 (by omega)
    have f15:=htr.form F hF9 15 (by omega)
    have f16:=htr.form F hF9 16 (by omega)
    by_cases hh:hit n x=true
    ·have hh':(bits .and .u32 x (fm F 0)==kb n)=true:=by rw[HF.out];exact hh
     go_wp2_with fail
     go_quiet(fail)
     have hbe2:=below_drewN (hbe.alloc hsz (.cells #[.int .i64 (F:Int),.int .u32 (kb n)] 197)) nq
     go_wp2_with(go_at_call 145;refine(zi2 (fm F) _ _ x0 x1 (ziI F hF9) _).mono ?_;rintro e w1 ⟨rfl,hk⟩;obtain⟨q0,q1,q2,q3,q4,y⟩:=zpK hk (by omega) r0 r1 r2 r3 r4 z)
     replace hbe2:=hbe2.trans (hk.mono (by simp;omega))
     refine bodyPost_ret (v:=.tuple #[insv n x,.bool true]) ?_ rfl ⟨.inl ⟨n,by omega,by omega,hh,hno,rfl⟩,?_⟩
     ·simp[results,results114,go_sem,q0,q1,q2,q3,q4,HF.out]
     ·have hbase:Below w.heap.size w w1:=((Below.refl _ _).alloc (Nat.le_refl _) _).trans (hbe2.mono (by omega))
      repeat(first|exact hbase|refine Below.setCell ?_ (by simp) _)
    ·have hh':(bits .and .u32 x (fm F 0)==kb n)=false:=by rw[HF.out];simpa[hit]using hh
     clear f1 f2 f3 f4 f5 f6 f7 f8 f9 f10 f11 f12 f13 f14 f15 f16
     go_wp2_with fail
     go_quiet(fail)
     go_wp2_with fail
     refine⟨⟨n+1,by omega,by go_num,?_,below_drewN (hbe.alloc hsz _) _,by simp;omega⟩,by simp[intOf];omega⟩
     intro m h1 h2
     by_cases e:m=n
     ·subst e;simpa using hh
     ·exact hno m h1 (by omega)
  ·obtain rfl:n=49:=by omega
   go_wp2_with fail
   refine bodyPost_ret (v:=.tuple #[iv 0 0 0 0 0,.bool false]) ?_ rfl ⟨.inr ⟨fun m h1 h2=>hno m h1 (by omega),rfl⟩,?_⟩
   ·simp[results,results114,go_sem,r0,r1,r2,r3,r4]
   ·have hbase:Below w.heap.size w wr:=((Below.refl _ _).alloc (Nat.le_refl _) _).trans (hbe.mono (by omega))
    repeat(first|exact hbase|refine Below.setCell ?_ (by simp) _)
end Go.Proofs.YtpiohehijkpghabGreatDoor
namespace Go.Proofs.YtpiohehijkpghabGreatDoor
open Go.RowKit
open Hy
attribute [local go_sem ↓] Go.wp_at_zero Go.wp_at_succ
def back(X:Int)(n:Nat)(rd rs1 rs2 imm:Int):Prop:=hit n X=true/\(∀k,1<=k->k<n->hit k X=false)/\rrg X 128 (fm (kn n) 1)=rd/\rrg X 32768 (fm (kn n) 2)=rs1/\rrg X 1048576 (fm (kn n) 3)=rs2/\rim (fm (kn n)) X=imm
end Go.Proofs.YtpiohehijkpghabGreatDoor
namespace Go.Proofs.YtpiohehijkpghabGreatDoor.Hy
open Go.RowKit
theorem kU(x:Int)(x0:0<=x)(x1:x<4294967296):pc x 0 0 0=0:=by
 have e:pc x 0 0 0=bits .and .u32 (x/1) 0*1%4294967296:=rfl
 rw[e,Int.ediv_one,xq x x0 x1];rfl
theorem zc1(x:Int)(x0:0<=x)(x1:x<4294967296):pc x 12 20 12=x/4096%1048576*4096:=by
 have e:pc x 12 20 12=bits .and .u32 (x/4096) 1048575*4096%4294967296:=rfl
 rw[e,znb (x/4096) (by omega) (by omega)];omega
theorem ze3(x:Int)(x0:0<=x)(x1:x<4294967296):pc x 31 1 20=x/2147483648%2*1048576:=by
 have e:pc x 31 1 20=bits .and .u32 (x/2147483648) 1*1048576%4294967296:=rfl
 rw[e,and1 (x/2147483648) (by omega) (by omega)];omega
theorem zm9(x:Int)(x0:0<=x)(x1:x<4294967296):pc x 20 1 31=x/1048576%2*2147483648:=by
 have e:pc x 20 1 31=bits .and .u32 (x/1048576) 1*2147483648%4294967296:=rfl
 rw[e,and1 (x/1048576) (by omega) (by omega)];omega
theorem ze4(x:Int)(x0:0<=x)(x1:x<4294967296):pc x 12 8 12=x/4096%256*4096:=by
 have e:pc x 12 8 12=bits .and .u32 (x/4096) 255*4096%4294967296:=rfl
 rw[e,zna (x/4096) (by omega) (by omega)];omega
theorem ze5(x:Int)(x0:0<=x)(x1:x<4294967296):pc x 20 1 11=x/1048576%2*2048:=by
 have e:pc x 20 1 11=bits .and .u32 (x/1048576) 1*2048%4294967296:=rfl
 rw[e,and1 (x/1048576) (by omega) (by omega)];omega
theorem ze6(x:Int)(x0:0<=x)(x1:x<4294967296):pc x 21 10 1=x/2097152%1024*2:=by
 have e:pc x 21 10 1=bits .and .u32 (x/2097152) 1023*2%4294967296:=rfl
 rw[e,zk4 (x/2097152) (by omega) (by omega)];omega
theorem ze7(x:Int)(x0:0<=x)(x1:x<4294967296):pc x 20 12 0=x/1048576%4096*1:=by
 have e:pc x 20 12 0=bits .and .u32 (x/1048576) 4095*1%4294967296:=rfl
 rw[e,zk5 (x/1048576) (by omega) (by omega)];omega
theorem zgt(x:Int)(x0:0<=x)(x1:x<4294967296):pc x 20 5 0=x/1048576%32*1:=by
 have e:pc x 20 5 0=bits .and .u32 (x/1048576) 31*1%4294967296:=rfl
 rw[e,zgd (x/1048576) (by omega) (by omega)];omega
theorem ze8(x:Int)(x0:0<=x)(x1:x<4294967296):pc x 31 1 12=x/2147483648%2*4096:=by
 have e:pc x 31 1 12=bits .and .u32 (x/2147483648) 1*4096%4294967296:=rfl
 rw[e,and1 (x/2147483648) (by omega) (by omega)];omega
theorem zgu(x:Int)(x0:0<=x)(x1:x<4294967296):pc x 7 1 11=x/128%2*2048:=by
 have e:pc x 7 1 11=bits .and .u32 (x/128) 1*2048%4294967296:=rfl
 rw[e,and1 (x/128) (by omega) (by omega)];omega
theorem zgv(x:Int)(x0:0<=x)(x1:x<4294967296):pc x 25 6 5=x/33554432%64*32:=by
 have e:pc x 25 6 5=bits .and .u32 (x/33554432) 63*32%4294967296:=rfl
 rw[e,zpq (x/33554432) (by omega) (by omega)];omega
theorem zi3(x:Int)(x0:0<=x)(x1:x<4294967296):pc x 8 4 1=x/256%16*2:=by
 have e:pc x 8 4 1=bits .and .u32 (x/256) 15*2%4294967296:=rfl
 rw[e,zpp (x/256) (by omega) (by omega)];omega
theorem zgw(x:Int)(x0:0<=x)(x1:x<4294967296):pc x 25 7 5=x/33554432%128*32:=by
 have e:pc x 25 7 5=bits .and .u32 (x/33554432) 127*32%4294967296:=rfl
 rw[e,zge (x/33554432) (by omega) (by omega)];omega
theorem zi4(x:Int)(x0:0<=x)(x1:x<4294967296):pc x 7 5 0=x/128%32*1:=by
 have e:pc x 7 5 0=bits .and .u32 (x/128) 31*1%4294967296:=rfl
 rw[e,zgd (x/128) (by omega) (by omega)];omega
theorem ib_U(x:Int)(x0:0<=x)(x1:x<4294967296):ib (fm 1) x 4=x/4096%1048576*4096:=by
 have e:ib (fm 1) x 4=bits .or .u32 (bits .or .u32 (bits .or .u32 (bits .or .u32 0 (pc x 12 20 12)) (pc x 0 0 0)) (pc x 0 0 0)) (pc x 0 0 0):=rfl
 rw[e,zc1 x x0 x1,kU x x0 x1]
 simp only[qB]
 rw[qk 12 32 (by omega) 4096 4294967296 _ (x/4096%1048576*4096) rfl rfl (by omega) (by omega) (jK (0) (0) (by omega) (by omega) (by omega) (by omega)) (by omega) (by omega) (by omega) (by omega)]
 omega
theorem ib_J(x:Int)(x0:0<=x)(x1:x<4294967296):ib (fm 2) x 4=x/2147483648%2*1048576+x/4096%256*4096+x/1048576%2*2048+x/2097152%1024*2:=by
 have e:ib (fm 2) x 4=bits .or .u32 (bits .or .u32 (bits .or .u32 (bits .or .u32 0 (pc x 31 1 20)) (pc x 12 8 12)) (pc x 20 1 11)) (pc x 21 10 1):=rfl
 rw[e,ze3 x x0 x1,ze4 x x0 x1,ze5 x x0 x1,ze6 x x0 x1]
 rw[qk 20 21 (by omega) 1048576 2097152 _ (x/2147483648%2*1048576) rfl rfl (by omega) (by omega) (jK (0) (0) (by omega) (by omega) (by omega) (by omega)) (by omega) (by omega) (by omega) (by omega)]
 rw[qk 12 20 (by omega) 4096 1048576 _ (x/4096%256*4096) rfl rfl (by omega) (by omega) (jK ((x/2147483648%2)*1) (0) (by omega) (by omega) (by omega) (by omega)) (by omega) (by omega) (by omega) (by omega)]
 rw[qk 11 12 (by omega) 2048 4096 _ (x/1048576%2*2048) rfl rfl (by omega) (by omega) (jK ((x/2147483648%2)*256+(x/4096%256)*1) (0) (by omega) (by omega) (by omega) (by omega)) (by omega) (by omega) (by omega) (by omega)]
 rw[qk 1 11 (by omega) 2 2048 _ (x/2097152%1024*2) rfl rfl (by omega) (by omega) (jK ((x/2147483648%2)*512+(x/4096%256)*2+(x/1048576%2)*1) (0) (by omega) (by omega) (by omega) (by omega)) (by omega) (by omega) (by omega) (by omega)]
 omega
theorem ib_I(x:Int)(x0:0<=x)(x1:x<4294967296):ib (fm 3) x 4=x/1048576%4096*1:=by
 have e:ib (fm 3) x 4=bits .or .u32 (bits .or .u32 (bits .or .u32 (bits .or .u32 0 (pc x 20 12 0)) (pc x 0 0 0)) (pc x 0 0 0)) (pc x 0 0 0):=rfl
 rw[e,ze7 x x0 x1,kU x x0 x1]
 simp only[qB]
 rw[qk 0 12 (by omega) 1 4096 _ (x/1048576%4096*1) rfl rfl (by omega) (by omega) (jK (0) (0) (by omega) (by omega) (by omega) (by omega)) (by omega) (by omega) (by omega) (by omega)]
 omega
theorem ib_H(x:Int)(x0:0<=x)(x1:x<4294967296):ib (fm 4) x 4=x/1048576%32*1:=by
 have e:ib (fm 4) x 4=bits .or .u32 (bits .or .u32 (bits .or .u32 (bits .or .u32 0 (pc x 20 5 0)) (pc x 0 0 0)) (pc x 0 0 0)) (pc x 0 0 0):=rfl
 rw[e,zgt x x0 x1,kU x x0 x1]
 simp only[qB]
 rw[qk 0 5 (by omega) 1 32 _ (x/1048576%32*1) rfl rfl (by omega) (by omega) (jK (0) (0) (by omega) (by omega) (by omega) (by omega)) (by omega) (by omega) (by omega) (by omega)]
 omega
theorem ib_B(x:Int)(x0:0<=x)(x1:x<4294967296):ib (fm 5) x 4=x/2147483648%2*4096+x/128%2*2048+x/33554432%64*32+x/256%16*2:=by
 have e:ib (fm 5) x 4=bits .or .u32 (bits .or .u32 (bits .or .u32 (bits .or .u32 0 (pc x 31 1 12)) (pc x 7 1 11)) (pc x 25 6 5)) (pc x 8 4 1):=rfl
 rw[e,ze8 x x0 x1,zgu x x0 x1,zgv x x0 x1,zi3 x x0 x1]
 rw[qk 12 13 (by omega) 4096 8192 _ (x/2147483648%2*4096) rfl rfl (by omega) (by omega) (jK (0) (0) (by omega) (by omega) (by omega) (by omega)) (by omega) (by omega) (by omega) (by omega)]
 rw[qk 11 12 (by omega) 2048 4096 _ (x/128%2*2048) rfl rfl (by omega) (by omega) (jK ((x/2147483648%2)*1) (0) (by omega) (by omega) (by omega) (by omega)) (by omega) (by omega) (by omega) (by omega)]
 rw[qk 5 11 (by omega) 32 2048 _ (x/33554432%64*32) rfl rfl (by omega) (by omega) (jK ((x/2147483648%2)*2+(x/128%2)*1) (0) (by omega) (by omega) (by omega) (by omega)) (by omega) (by omega) (by omega) (by omega)]
 rw[qk 1 5 (by omega) 2 32 _ (x/256%16*2) rfl rfl (by omega) (by omega) (jK ((x/2147483648%2)*128+(x/128%2)*64+(x/33554432%64)*1) (0) (by omega) (by omega) (by omega) (by omega)) (by omega) (by omega) (by omega) (by omega)]
 omega
theorem ib_S(x:Int)(x0:0<=x)(x1:x<4294967296):ib (fm 6) x 4=x/33554432%128*32+x/128%32*1:=by
 have e:ib (fm 6) x 4=bits .or .u32 (bits .or .u32 (bits .or .u32 (bits .or .u32 0 (pc x 25 7 5)) (pc x 7 5 0)) (pc x 0 0 0)) (pc x 0 0 0):=rfl
 rw[e,zgw x x0 x1,zi4 x x0 x1,kU x x0 x1]
 simp only[qB]
 rw[qk 5 12 (by omega) 32 4096 _ (x/33554432%128*32) rfl rfl (by omega) (by omega) (jK (0) (0) (by omega) (by omega) (by omega) (by omega)) (by omega) (by omega) (by omega) (by omega)]
 rw[qk 0 5 (by omega) 1 32 _ (x/128%32*1) rfl rfl (by omega) (by omega) (jK ((x/33554432%128)*1) (0) (by omega) (by omega) (by omega) (by omega)) (by omega) (by omega) (by omega) (by omega)]
 omega
theorem ib_R(x:Int)(x0:0<=x)(x1:x<4294967296):ib (fm 7) x 4=0:=by
 have e:ib (fm 7) x 4=bits .or .u32 (bits .or .u32 (bits .or .u32 (bits .or .u32 0 (pc x 0 0 0)) (pc x 0 0 0)) (pc x 0 0 0)) (pc x 0 0 0):=rfl
 rw[e,kU x x0 x1]
 simp only[qB]
 exact yM 0 (by omega) (by omega)
theorem ib_E(x:Int)(x0:0<=x)(x1:x<4294967296):ib (fm 8) x 4=0:=by
 have e:ib (fm 8) x 4=bits .or .u32 (bits .or .u32 (bits .or .u32 (bits .or .u32 0 (pc x 0 0 0)) (pc x 0 0 0)) (pc x 0 0 0)) (pc x 0 0 0):=rfl
 rw[e,kU x x0 x1]
 simp only[qB]
 exact yM 0 (by omega) (by omega)
end Go.Proofs.YtpiohehijkpghabGreatDoor.Hy
namespace Go.Proofs.YtpiohehijkpghabGreatDoor.Hy
open Go.RowKit
def sx(v half full:Int):Int:=if v<half then v else v-full
theorem znD(x:Int)(x0:0<=x)(x1:x<4294967296):rim (fm 1) x=sx (x/4096*4096) 2147483648 4294967296:=by
 have e:rim (fm 1) x=wrap32 (ib (fm 1) x 4*1%4294967296)/1:=rfl
 rw[e,ib_U x x0 x1];unfold sx wrap32;split<;>omega
theorem znE(x:Int)(x0:0<=x)(x1:x<4294967296):rim (fm 2) x=sx (x/2147483648%2*1048576+x/4096%256*4096+x/1048576%2*2048+x/2097152%1024*2) 1048576 2097152:=by
 have e:rim (fm 2) x=wrap32 (ib (fm 2) x 4*2048%4294967296)/2048:=rfl
 rw[e,ib_J x x0 x1]
 have h:0<=x/2147483648%2*1048576+x/4096%256*4096+x/1048576%2*2048+x/2097152%1024*2/\x/2147483648%2*1048576+x/4096%256*4096+x/1048576%2*2048+x/2097152%1024*2<2097152:=by omega
 revert h
 generalize x/2147483648%2*1048576+x/4096%256*4096+x/1048576%2*2048+x/2097152%1024*2=v
 intro h
 unfold sx wrap32;split<;>omega
theorem znF(x:Int)(x0:0<=x)(x1:x<4294967296):rim (fm 3) x=sx (x/1048576) 2048 4096:=by
 have e:rim (fm 3) x=wrap32 (ib (fm 3) x 4*1048576%4294967296)/1048576:=rfl
 rw[e,ib_I x x0 x1];unfold sx wrap32;split<;>omega
theorem znG(x:Int)(x0:0<=x)(x1:x<4294967296):rim (fm 4) x=x/1048576%32:=by
 have e:rim (fm 4) x=wrap32 (ib (fm 4) x 4*1%4294967296)/1:=rfl
 rw[e,ib_H x x0 x1];unfold wrap32;omega
theorem znH(x:Int)(x0:0<=x)(x1:x<4294967296):rim (fm 5) x=sx (x/2147483648%2*4096+x/128%2*2048+x/33554432%64*32+x/256%16*2) 4096 8192:=by
 have e:rim (fm 5) x=wrap32 (ib (fm 5) x 4*524288%4294967296)/524288:=rfl
 rw[e,ib_B x x0 x1]
 have h:0<=x/2147483648%2*4096+x/128%2*2048+x/33554432%64*32+x/256%16*2/\x/2147483648%2*4096+x/128%2*2048+x/33554432%64*32+x/256%16*2<8192:=by omega
 revert h
 generalize x/2147483648%2*4096+x/128%2*2048+x/33554432%64*32+x/256%16*2=v
 intro h
 unfold sx wrap32;split<;>omega
theorem znI(x:Int)(x0:0<=x)(x1:x<4294967296):rim (fm 6) x=sx (x/33554432*32+x/128%32) 2048 4096:=by
 have e:rim (fm 6) x=wrap32 (ib (fm 6) x 4*1048576%4294967296)/1048576:=rfl
 rw[e,ib_S x x0 x1]
 have h:0<=x/33554432*32+x/128%32/\x/33554432*32+x/128%32<4096:=by omega
 have e2:x/33554432%128*32+x/128%32*1=x/33554432*32+x/128%32:=by omega
 rw[e2]
 revert h
 generalize x/33554432*32+x/128%32=v
 intro h
 unfold sx wrap32;split<;>omega
theorem znJ(x:Int)(x0:0<=x)(x1:x<4294967296):rim (fm 7) x=0:=by
 have e:rim (fm 7) x=wrap32 (ib (fm 7) x 4*1%4294967296)/1:=rfl
 rw[e,ib_R x x0 x1];unfold wrap32;omega
theorem znK(x:Int)(x0:0<=x)(x1:x<4294967296):rim (fm 8) x=0:=by
 have e:rim (fm 8) x=wrap32 (ib (fm 8) x 4*1%4294967296)/1:=rfl
 rw[e,ib_E x x0 x1];unfold wrap32;omega
theorem ze9(x:Int)(x0:0<=x)(x1:x<4294967296):rrg x 128 31=x/128%32:=by
 unfold rrg;rw[zgd _ (by omega) (by omega)];unfold wrap64;omega
theorem zan(x:Int)(x0:0<=x)(x1:x<4294967296):rrg x 32768 31=x/32768%32:=by
 unfold rrg;rw[zgd _ (by omega) (by omega)];unfold wrap64;omega
theorem zd1(x:Int)(x0:0<=x)(x1:x<4294967296):rrg x 1048576 31=x/1048576%32:=by
 unfold rrg;rw[zgd _ (by omega) (by omega)];unfold wrap64;omega
theorem yR(x:Int)(x0:0<=x)(x1:x<4294967296):rrg x 128 0=0:=by
 unfold rrg;rw[xq _ (by omega) (by omega)];unfold wrap64;omega
theorem zaI(x:Int)(x0:0<=x)(x1:x<4294967296):rrg x 32768 0=0:=by
 unfold rrg;rw[xq _ (by omega) (by omega)];unfold wrap64;omega
theorem kV(x:Int)(x0:0<=x)(x1:x<4294967296):rrg x 1048576 0=0:=by
 unfold rrg;rw[xq _ (by omega) (by omega)];unfold wrap64;omega
end Go.Proofs.YtpiohehijkpghabGreatDoor.Hy
namespace Go.Proofs.YtpiohehijkpghabGreatDoor
open Go.RowKit
open Hy
theorem jp{n:Nat}{x m:Int}:fits n x m=true↔0<=x/\x%m=0/\x+m<=n:=by unfold fits;simp
theorem zlj{op:Int}(h:op<11\/15<op):ldn op=0:=by
 unfold ldn
 rw[if_neg (by omega),if_neg (by omega),if_neg (by omega)]
theorem kg(n:Nat)(f:Nat->Int)(i:In)(pc a b:Int)(h:i.op<11\/15<i.op):allW n f i pc a b=doW i pc a b n:=by
 unfold allW
 exact if_neg (fun h'=>h' (zlj h))
theorem zgx(n:Nat)(f:Nat->Int)(i:In)(pc a b:Int)(h1:1<=i.op)(h2:i.op<46)(h3:i.op<11\/18<i.op):allW n f i pc a b=zbN pc (nxW i pc a b) i.rd (rkW i pc a b):=by
 rw[kg n f i pc a b (by omega)]
 unfold doW
 have hs:¬sts i=true:=by unfold sts;simp;omega
 rw[if_neg hs,if_neg (by omega),if_neg (by omega),if_neg (by omega)]
theorem zgy(pc nx v:Int){rd:Nat}(h:¬rd=0):zbN pc nx rd v=⟨pc,nx,0,0,rd,v,0,0,0,false,0⟩:=by unfold zbN;rw[if_neg h]
theorem znL(pc v:Int){rd:Nat}(h:rd=0):onC pc rd v=⟨pc,(pc+4)%4294967296,0,0,0,0,0,0,0,false,0⟩:=by subst h;rfl
theorem zlk(pc v:Int){rd:Nat}(h:¬rd=0):onC pc rd v=⟨pc,(pc+4)%4294967296,0,0,rd,v,0,0,0,false,0⟩:=by unfold onC;rw[if_neg h]
theorem zll(i:In)(pc a b:Int)(h:i.op=3):nxW i pc a b=(pc+i.im%4294967296)%4294967296:=by unfold nxW;rw[if_pos h]
theorem zi5(i:In)(pc a b:Int)(h:i.op=4):nxW i pc a b=(a+i.im%4294967296)%4294967296-(a+i.im%4294967296)%4294967296%2:=by unfold nxW;rw[if_neg (by omega),if_pos h]
theorem znM(i:In)(pc a b:Int)(h3:i.op≠3)(h4:i.op≠4)(h:holds i.op a b=true):nxW i pc a b=(pc+i.im%4294967296)%4294967296:=by unfold nxW;rw[if_neg h3,if_neg h4,if_pos h]
theorem zky(i:In)(pc a b:Int)(h3:i.op≠3)(h4:i.op≠4)(h:holds i.op a b=false):nxW i pc a b=(pc+4)%4294967296:=by unfold nxW;rw[if_neg h3,if_neg h4,if_neg (by rw[h];decide)]
theorem zlm(i:In)(pc a b:Int)(h:i.op=1):rkW i pc a b=i.im%4294967296:=by unfold rkW;rw[if_pos h]
theorem zgz(i:In)(pc a b:Int)(h:i.op=2):rkW i pc a b=(pc+i.im%4294967296)%4294967296:=by unfold rkW;rw[if_neg (by omega),if_pos h]
theorem zd2(i:In)(pc a b:Int)(h:i.op=3\/i.op=4):rkW i pc a b=(pc+4)%4294967296:=by unfold rkW;rw[if_neg (by omega),if_neg (by omega),if_pos h]
theorem zln(i:In)(pc a b:Int)(h:19<=i.op/\i.op<=27):rkW i pc a b=alu (opn i.op) a (i.im%4294967296):=by unfold rkW;rw[if_neg (by omega),if_neg (by omega),if_neg (by omega),if_pos h]
theorem zlo(i:In)(pc a b:Int)(h:5<=i.op)(h':¬(19<=i.op/\i.op<=27)):rkW i pc a b=alu i.op a b:=by unfold rkW;rw[if_neg (by omega),if_neg (by omega),if_neg (by omega),if_neg h']
theorem zgA(n:Nat)(f:Nat->Int)(op:Int)(rd s1 s2:Nat)(I pc a:Int)(q:Nat)(hq:(a+I)%4294967296=(q:Int))(ho:0<ldn op/\(q:Int)%ldn op=0/\(q:Int)+ldn op<=n):qa n f ⟨op,rd,s1,s2,I⟩ pc a=onC pc rd (ldv op (fun i=>f (q+i))):=by
 have hpl:place ⟨op,rd,s1,s2,I⟩ a=(q:Int):=hq
 unfold qa
 rw[hpl,if_pos (jp.2 ⟨by omega,ho.2⟩)]
 rfl
theorem zi6(n:Nat)(f:Nat->Int)(op:Int)(rd s1 s2:Nat)(I pc a:Int)(q:Nat)(hq:(a+I)%4294967296=(q:Int))(h0:0<ldn op)(ho:¬(0<ldn op/\(q:Int)%ldn op=0/\(q:Int)+ldn op<=n)):qa n f ⟨op,rd,s1,s2,I⟩ pc a=qe pc 3:=by
 have hpl:place ⟨op,rd,s1,s2,I⟩ a=(q:Int):=hq
 unfold qa
 rw[hpl,if_neg (fun h=>ho ⟨h0,(jp.1 h).2⟩)]
theorem zgB(n:Nat)(f:Nat->Int)(i:In)(pc a b:Int)(h:0<ldn i.op):allW n f i pc a b=qa n f i pc a:=by
 unfold allW
 exact if_pos (by omega)
theorem zc2(n:Nat)(op:Int)(rd s1 s2:Nat)(I pc a b:Int)(q:Nat)(hs:16<=op/\op<=18)(hq:(a+I)%4294967296=(q:Int))(ho:0<stn op/\(q:Int)%stn op=0/\(q:Int)+stn op<=n):doW ⟨op,rd,s1,s2,I⟩ pc a b n=⟨pc,(pc+4)%4294967296,0,0,0,0,(a+I)%4294967296,stn op,b%p256 (stn op).toNat,false,0⟩:=by
 have hpl:place ⟨op,rd,s1,s2,I⟩ a=(q:Int):=hq
 have hs:sts ⟨op,rd,s1,s2,I⟩=true:=by unfold sts;simpa using hs
 unfold doW
 rw[if_pos hs,if_pos (jp.2 (by rw[hpl];exact⟨by omega,ho.2⟩))]
 rfl
theorem zfa(n:Nat)(op:Int)(rd s1 s2:Nat)(I pc a b:Int)(q:Nat)(hs:16<=op/\op<=18)(hq:(a+I)%4294967296=(q:Int))(h0:0<stn op)(ho:¬(0<stn op/\(q:Int)%stn op=0/\(q:Int)+stn op<=n)):doW ⟨op,rd,s1,s2,I⟩ pc a b n=qe pc 4:=by
 have hpl:place ⟨op,rd,s1,s2,I⟩ a=(q:Int):=hq
 have hs:sts ⟨op,rd,s1,s2,I⟩=true:=by unfold sts;simpa using hs
 unfold doW
 rw[if_pos hs,if_neg (fun h=>ho (by rw[hpl]at h;exact⟨h0,(jp.1 h).2⟩))]
theorem zi7(n rd s1 s2:Nat)(I pc a b:Int):doW ⟨47,rd,s1,s2,I⟩ pc a b n=if a=0 then⟨pc,pc,1,0,0,0,0,0,0,false,0⟩else if a=1 then⟨pc,(pc+4)%4294967296,0,0,0,0,0,0,0,true,b⟩else qe pc 5:=rfl
theorem zgC(n rd s1 s2:Nat)(I pc a b:Int):doW ⟨46,rd,s1,s2,I⟩ pc a b n=⟨pc,(pc+4)%4294967296,0,0,0,0,0,0,0,false,0⟩:=rfl
theorem zgD(n rd s1 s2:Nat)(I pc a b:Int):doW ⟨48,rd,s1,s2,I⟩ pc a b n=qe pc 6:=rfl
theorem zc3(h a n c:Nat)(m B:Nat)(W:Int)(f:Nat->Int)(hm:m=1\/m=2\/m=4)(hmn:a+m<=n)(hn:n<=140737488355328)(W0:0<=W)(W1:W<=4294967295)(w:World)(H:Fr w B h n f):
  Calls prog 87 #[.slice (some ⟨h,a,none⟩) (n-a) c,.int .u32 m,.int .u32 W] w fun e w'=>e=.returned (.tuple #[])/\Fr w' B h n (sto f a W m)/\Below B w w'/\w'.heap.size=w.heap.size:=by
 go_enter func87,ntmps87
 go_wp2
 go_loopw [6,8] (fun i k wr=>∃j:Nat,j<=m/\k=.int .u32 j/\Fr wr B h n (sto f a W j)/\Below B w wr/\wr.heap.size=w.heap.size) (fun _ k _=>m-(intOf k).toNat)
 case atStart=>exact⟨0,by omega,rfl,H.congr fun i _=>by unfold sto;rw[if_neg (by omega)],Below.refl _ _,rfl⟩
 case round=>
  obtain⟨j,hj,rfl,hF,hB,hS⟩:=hrel
  by_cases hlt:j<m
  ·have c0:=hF.cell (a+j) (by omega)
   have z0:=hF.free (a+j) (by omega)
   rcases(by omega:j=0\/j=1\/j=2\/j=3)with rfl|rfl|rfl|rfl
   ·rw[Nat.add_zero]at c0 z0
    go_wp2
    refine⟨⟨1,by omega,rfl,hF.step (j:=0) (by omega) _ (by rw[show p256 0=1 from rfl,Int.ediv_one]),hB.setCell hF.base _,by simpa using hS⟩,by simp[intOf];omega⟩
   ·go_wp2
    refine⟨⟨2,by omega,rfl,hF.step (j:=1) (by omega) _ rfl,hB.setCell hF.base _,by simpa using hS⟩,by simp[intOf];omega⟩
   ·go_wp2
    refine⟨⟨3,by omega,rfl,hF.step (j:=2) (by omega) _ rfl,hB.setCell hF.base _,by simpa using hS⟩,by simp[intOf];omega⟩
   ·go_wp2
    refine⟨⟨4,by omega,rfl,hF.step (j:=3) (by omega) _ (by rw[show p256 3=16777216 from rfl];omega),hB.setCell hF.base _,by simpa using hS⟩,by simp[intOf];omega⟩
  ·obtain rfl:j=m:=by omega
   go_wp2
   go_end0
   exact⟨rfl,hF,hB,hS⟩
theorem zgE(g o n c:Nat)(op:Int)(a m:Nat)(W:Int)(f:Nat->Int)(hM:stn op=(m:Int))(hn:n<=140737488355328)(a1:a<=4294967295)(h0:0<m)(h1:a%m=0)(h2:a+m<=n)(hnc:n<=c)(W0:0<=W)(W1:W<=4294967295)(w:World)
  (hc:Lies w g o n f):
  Calls prog 63 #[.slice (some ⟨g,o,none⟩) n c,.int .i64 op,.int .u32 a,.int .u32 W] w fun e w'=>(∃h cap,e=.returned (.tuple #[.slice (some ⟨h,0,none⟩) n cap,.bool true])/\n<=cap/\Fr w' w.heap.size h n (sto f a W m))/\Below w.heap.size w w':=by
 have hm':=jL op
 have hm:m=1\/m=2\/m=4:=by omega
 have C1:=fun w=>zam (some ⟨g,o,none⟩) n c op a hn (by omega) (by omega) (by rw[hM];exact⟨by omega,by omega,by omega⟩) w
 rw[hM]at C1 hm'
 have C3:=fun w hc=>zgn g o n c f (by omega) hn w hc
 clear hm'
 go_enter func63,ntmps63
 go_wp2_with fail
 refine(C1 _).mono ?_
 rintro e w' ⟨rfl,rfl⟩
 go_wp2_with fail
 refine(C3 _ hc).mono ?_
 rintro e w1 ⟨⟨h,cap,rfl,hcap,hmax,hF⟩,hB⟩
 clear C1 C3
 go_wp2_with fail
 refine(zc3 h a n (cap-a) m w'.heap.size W f hm (by omega) hn W0 W1 w1 hF).mono ?_
 rintro e w2 ⟨rfl,hF2,hB2,hS2⟩
 go_wp2_with fail
 go_ret2
 exact⟨⟨h,cap,rfl,hcap,hF2⟩,hB.trans hB2⟩
def dAt(d:DataW Unit)(i:Nat):DataW Unit:=match d with
 |.agg l=>l.getD i .nil
 |_=>.nil
def dInt(d:DataW Unit):Int:=match d with
 |.lit (.int _ z)=>z
 |_=>0
section
variable {enc:TypeId×Value->Unit} {w:World} {base:Nat} {sp:Nat->Bool} {held:Bool} {fuel:Nat} {cs:List Value} {d:DataW Unit} {p:List MemPlace}
theorem zd3{t e:TypeId}{n:Nat}(ht:prog.underlying t=some (.array n e))(h:DataW.trod enc prog w base sp held fuel t cs=some (d,p))(i:Nat)(hi:i<n):
  ∃m q,DataW.trod enc prog w base sp held m e ((cs.drop (i*prog.cellsOf e)).take (prog.cellsOf e))=some (dAt d i,q):=by
 obtain⟨xs,m,_,hx,_,hn,hall⟩:=DataW.trod_array ht h
 have hd:d=.agg (xs.map (·.1)):=congrArg Prod.fst hx
 have hlt:i<xs.length:=by omega
 refine⟨m,xs[i].2,?_⟩
 rw[hall i hi,List.getElem?_eq_getElem hlt,hd]
 simp[dAt,hlt]
theorem zgF{t:TypeId}{fs:Array Field}(ht:prog.underlying t=some (.struct fs))(h:DataW.trod enc prog w base sp held fuel t cs=some (d,p))(i:Nat)(f:Field)(hi:fs[i]?=some f):
  ∃m q,DataW.trod enc prog w base sp held m f.type ((cs.drop f.offset).take (prog.cellsOf f.type))=some (dAt d i,q):=by
 obtain⟨xs,m,_,hx,_,hn,hall⟩:=DataW.trod_struct ht h
 have hd:d=.agg (xs.map (·.1)):=congrArg Prod.fst hx
 have hlt:i<xs.length:=by
  have:=(Array.getElem?_eq_some_iff.1 hi).1
  omega
 refine⟨m,xs[i].2,?_⟩
 rw[hall i f hi,List.getElem?_eq_getElem hlt,hd]
 simp[dAt,hlt]
theorem zkz{o:Nat}(h:DataW.trod enc prog w base sp held fuel 24 ((cs.drop o).take 1)=some (d,p)):cs[o]?=some (.int .u32 (dInt d)):=by
 obtain⟨z,hc,hx,_⟩:=DataW.trod_int underlying24 h
 have hd:d=.lit (.int .u32 z):=congrArg Prod.fst hx
 have:=congrArg (·[0]?) hc
 simp[List.getElem?_drop]at this
 rw[this,hd]
 rfl
theorem yy{l:List Value}{o n j:Nat}(hj:j<n):((l.drop o).take n)[j]?=l[o+j]?:=by
 simp[List.getElem?_drop,hj]
theorem c40:prog.cellsOf 204=17:=by kernel_rfl
theorem c38:prog.cellsOf 202=12:=by kernel_rfl
theorem c37:prog.cellsOf 201=3:=by kernel_rfl
theorem c22:prog.cellsOf 24=1:=by kernel_rfl
theorem zi8(h:DataW.trod enc prog w base sp held fuel 205 cs=some (d,p))(f:Nat)(hf:f<9)(j:Nat)(hj:j<5):
  cs[f*17+j]?=some (.int .u32 (dInt (dAt (dAt d f) j))):=by
 obtain⟨m,q,h1⟩:=zd3 underlying205 h f hf
 rw[c40]at h1
 have key:∀fl:Field,fl.type=24->fl.offset=j->(match prog.underlying 204 with|some (.struct fs)=>fs[j]?|_=>none)=some fl->cs[f*17+j]?=some (.int .u32 (dInt (dAt (dAt d f) j))):=by
  intro fl t1 t2 t3
  rw[underlying204]at t3
  obtain⟨m2,q2,h2⟩:=zgF underlying204 h1 j fl t3
  rw[t1,t2,c22]at h2
  have:=zkz h2
  rwa [yy (by omega)]at this
 rcases(by omega:j=0\/j=1\/j=2\/j=3\/j=4)with rfl|rfl|rfl|rfl|rfl
 all_goals(refine key _ ?_ ?_ (by rw[underlying204];rfl)<;>rfl)
theorem zlp(h:DataW.trod enc prog w base sp held fuel 205 cs=some (d,p))(f:Nat)(hf:f<9)(k:Nat)(hk:k<4)(l:Nat)(hl:l<3):
  cs[f*17+(5+(k*3+l))]?=some (.int .u32 (dInt (dAt (dAt (dAt (dAt d f) 5) k) l))):=by
 obtain⟨m,q,h1⟩:=zd3 underlying205 h f hf
 rw[c40]at h1
 obtain⟨m2,q2,h2⟩:=zgF underlying204 h1 5 _ rfl
 have h2':DataW.trod enc prog w base sp held m2 202 ((((cs.drop (f*17)).take 17).drop 5).take 12)=some (dAt (dAt d f) 5,q2):=by rw[<-c38];exact h2
 obtain⟨m3,q3,h3⟩:=zd3 underlying202 h2' k hk
 rw[c37]at h3
 have key:∀fl:Field,fl.type=24->fl.offset=l->(match prog.underlying 201 with|some (.struct fs)=>fs[l]?|_=>none)=some fl->cs[f*17+(5+(k*3+l))]?=some (.int .u32 (dInt (dAt (dAt (dAt (dAt d f) 5) k) l))):=by
  intro fl t1 t2 t3
  rw[underlying201]at t3
  obtain⟨m4,q4,h4⟩:=zgF underlying201 h3 l fl t3
  rw[t1,t2,c22]at h4
  have:=zkz h4
  rwa [yy (by omega),yy (by omega),yy (by omega)]at this
 rcases(by omega:l=0\/l=1\/l=2)with rfl|rfl|rfl
 all_goals(refine key _ ?_ ?_ (by rw[underlying201];rfl)<;>rfl)
end
abbrev zd4:DataW Unit:=Rows.laid_humpyard_decode_forms
theorem zgG:∀f,f<9->∀j,j<5->dInt (dAt (dAt zd4 f) j)=ftab.getD (f*17+j) 0:=by decide
theorem zi9:∀f,f<9->∀k,k<4->∀l,l<3->dInt (dAt (dAt (dAt (dAt zd4 f) 5) k) l)=ftab.getD (f*17+(5+(k*3+l))) 0:=by decide
theorem gTab:prog.globalNamed "humpyard/decode.forms" =some 1:=by kernel_rfl
theorem zja:(prog.globals[1]?).map (·.type)=some 205:=by kernel_rfl
theorem zc4{W:World}(h:laidMet prog [("humpyard/decode.forms",zd4)] W):Tab W:=by
 obtain⟨ps,⟨g',t',cs,fuel,p,q,hg',ht',hvar,hd,_,_⟩,_⟩:=h
 obtain rfl:=Option.some.inj (gTab.symm.trans hg')
 obtain rfl:=Option.some.inj (zja.symm.trans ht')
 intro i hi
 rw[World.var?_cell gTab hvar i]
 have hr:i%17<17:=Nat.mod_lt _ (by omega)
 have hm:i=i/17*17+i%17:=by omega
 have hf:i/17<9:=by omega
 by_cases h5:i%17<5
 ·have h1:=zi8 hd (i/17) hf (i%17) h5
  rw[zgG _ hf _ h5,<-hm]at h1
  simpa using h1
 ·have e:5+((i%17-5)/3*3+(i%17-5)%3)=i%17:=by omega
  have h1:=zlp hd (i/17) hf ((i%17-5)/3) (by omega) ((i%17-5)%3) (by omega)
  rw[zi9 _ hf _ (by omega) _ (by omega),e,<-hm]at h1
  simpa using h1
end Go.Proofs.YtpiohehijkpghabGreatDoor
