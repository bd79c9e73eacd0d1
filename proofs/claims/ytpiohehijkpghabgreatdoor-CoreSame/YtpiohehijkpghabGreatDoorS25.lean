/- GuessTells, walked. -/
import Derived.WalkKit
import Derived.Test.YtpiohehijkpghabGreatDoorChecked
import Derived.ProofKit
import Derived.Below
import Derived.Deep.MidRow
import Derived.Deep.WholeRow
import Derived.Laws.Rows
import Derived.Laws.Tables
import Derived.Deep.QuietTactic
import Derived.BigQuiet
import Derived.Deep.RegionWith
import Derived.Deep.Cut
import Derived.Deep.RegionHeld
set_option maxRecDepth 20000
set_option maxHeartbeats 1000000
set_option linter.unusedSimpArgs false
set_option linter.unusedVariables false
open Go.Proofs.Tryz
namespace Go.Proofs.YtpiohehijkpghabGreatDoor.Gu.Hy
open Go.RowKit
structure Tb where
 L:Nat->Int
 G:Nat->Int
 P:Nat->Int
 A:Nat->Int
 S:Nat->Int
 U:Nat->Int
abbrev tcs(t:Tb):Array Value:=#[.int .i64 (t.L 0),.int .u32 (t.G 0),.int .i64 (t.L 1),.int .u32 (t.G 1),.int .i64 (t.L 2),.int .u32 (t.G 2),.int .i64 (t.L 3),.int .u32 (t.G 3),.int .i64 (t.L 4),.int .u32 (t.G 4),.int .i64 (t.L 5),.int .u32 (t.G 5),.int .i64 (t.L 6),.int .u32 (t.G 6),.int .i64 (t.L 7),.int .u32 (t.G 7),.int .i64 (t.L 8),.int .u32 (t.G 8),.int .i64 (t.L 9),.int .u32 (t.G 9),.int .i64 (t.L 10),.int .u32 (t.G 10),.int .i64 (t.L 11),.int .u32 (t.G 11),.int .i64 (t.L 12),.int .u32 (t.G 12),.int .i64 (t.L 13),.int .u32 (t.G 13),.int .i64 (t.L 14),.int .u32 (t.G 14),.int .i64 (t.L 15),.int .u32 (t.G 15),.int .u32 (t.P 0),.int .u32 (t.A 0),.int .u32 (t.S 0),.int .i64 (t.U 0),.int .u32 (t.P 1),.int .u32 (t.A 1),.int .u32 (t.S 1),.int .i64 (t.U 1),.int .u32 (t.P 2),.int .u32 (t.A 2),.int .u32 (t.S 2),.int .i64 (t.U 2),.int .u32 (t.P 3),.int .u32 (t.A 3),.int .u32 (t.S 3),.int .i64 (t.U 3),.int .u32 (t.P 4),.int .u32 (t.A 4),.int .u32 (t.S 4),.int .i64 (t.U 4),.int .u32 (t.P 5),.int .u32 (t.A 5),.int .u32 (t.S 5),.int .i64 (t.U 5),.int .u32 (t.P 6),.int .u32 (t.A 6),.int .u32 (t.S 6),.int .i64 (t.U 6),.int .u32 (t.P 7),.int .u32 (t.A 7),.int .u32 (t.S 7),.int .i64 (t.U 7)]
def bnd(n:Int):Int:=if n<0 then 0 else if 3<n then 3 else n
def up(f:Nat->Int)(k:Nat)(x:Int)(j:Nat):Int:=if j=k then x else f j
theorem zfE(f:Nat->Int)(k:Nat)(x:Int):up f k x k=x:=if_pos rfl
theorem zof(f:Nat->Int)(k:Nat)(x y:Int):up (up f k x) k y=up f k y:=by
 funext j
 unfold up
 split<;>rfl
theorem zog(f:Nat->Int)(k:Nat):up f k (f k)=f:=by
 funext j
 unfold up
 split
 ·rename_i h;rw[h]
 ·rfl
theorem zlP(t:Tb)(k:Nat)(h:k<16):(tcs t)[k*2]?=some (.int .i64 (t.L k)):=
 match k,h with
 |0,_=>rfl
 |1,_=>rfl
 |2,_=>rfl
 |3,_=>rfl
 |4,_=>rfl
 |5,_=>rfl
 |6,_=>rfl
 |7,_=>rfl
 |8,_=>rfl
 |9,_=>rfl
 |10,_=>rfl
 |11,_=>rfl
 |12,_=>rfl
 |13,_=>rfl
 |14,_=>rfl
 |15,_=>rfl
 |n+16,h=>absurd h (by omega)
theorem zon(t:Tb)(x:Int)(k:Nat)(h:k<16):(tcs t).setIfInBounds (k*2) (.int .i64 x)=tcs {t with L:=up t.L k x}:=
 match k,h with
 |0,_=>rfl
 |1,_=>rfl
 |2,_=>rfl
 |3,_=>rfl
 |4,_=>rfl
 |5,_=>rfl
 |6,_=>rfl
 |7,_=>rfl
 |8,_=>rfl
 |9,_=>rfl
 |10,_=>rfl
 |11,_=>rfl
 |12,_=>rfl
 |13,_=>rfl
 |14,_=>rfl
 |15,_=>rfl
 |n+16,h=>absurd h (by omega)
theorem zoo(t:Tb)(k:Nat)(h:k<16):(tcs t)[k*2+1]?=some (.int .u32 (t.G k)):=
 match k,h with
 |0,_=>rfl
 |1,_=>rfl
 |2,_=>rfl
 |3,_=>rfl
 |4,_=>rfl
 |5,_=>rfl
 |6,_=>rfl
 |7,_=>rfl
 |8,_=>rfl
 |9,_=>rfl
 |10,_=>rfl
 |11,_=>rfl
 |12,_=>rfl
 |13,_=>rfl
 |14,_=>rfl
 |15,_=>rfl
 |n+16,h=>absurd h (by omega)
theorem zpS(t:Tb)(x:Int)(k:Nat)(h:k<16):(tcs t).setIfInBounds (k*2+1) (.int .u32 x)=tcs {t with G:=up t.G k x}:=
 match k,h with
 |0,_=>rfl
 |1,_=>rfl
 |2,_=>rfl
 |3,_=>rfl
 |4,_=>rfl
 |5,_=>rfl
 |6,_=>rfl
 |7,_=>rfl
 |8,_=>rfl
 |9,_=>rfl
 |10,_=>rfl
 |11,_=>rfl
 |12,_=>rfl
 |13,_=>rfl
 |14,_=>rfl
 |15,_=>rfl
 |n+16,h=>absurd h (by omega)
theorem zop(t:Tb)(k:Nat)(h:k<8):(tcs t)[32+k*4]?=some (.int .u32 (t.P k)):=
 match k,h with
 |0,_=>rfl
 |1,_=>rfl
 |2,_=>rfl
 |3,_=>rfl
 |4,_=>rfl
 |5,_=>rfl
 |6,_=>rfl
 |7,_=>rfl
 |n+8,h=>absurd h (by omega)
theorem zoh(t:Tb)(x:Int)(k:Nat)(h:k<8):(tcs t).setIfInBounds (32+k*4) (.int .u32 x)=tcs {t with P:=up t.P k x}:=
 match k,h with
 |0,_=>rfl
 |1,_=>rfl
 |2,_=>rfl
 |3,_=>rfl
 |4,_=>rfl
 |5,_=>rfl
 |6,_=>rfl
 |7,_=>rfl
 |n+8,h=>absurd h (by omega)
theorem zoq(t:Tb)(k:Nat)(h:k<8):(tcs t)[32+k*4+1]?=some (.int .u32 (t.A k)):=
 match k,h with
 |0,_=>rfl
 |1,_=>rfl
 |2,_=>rfl
 |3,_=>rfl
 |4,_=>rfl
 |5,_=>rfl
 |6,_=>rfl
 |7,_=>rfl
 |n+8,h=>absurd h (by omega)
theorem zpT(t:Tb)(x:Int)(k:Nat)(h:k<8):(tcs t).setIfInBounds (32+k*4+1) (.int .u32 x)=tcs {t with A:=up t.A k x}:=
 match k,h with
 |0,_=>rfl
 |1,_=>rfl
 |2,_=>rfl
 |3,_=>rfl
 |4,_=>rfl
 |5,_=>rfl
 |6,_=>rfl
 |7,_=>rfl
 |n+8,h=>absurd h (by omega)
theorem zor(t:Tb)(k:Nat)(h:k<8):(tcs t)[32+k*4+2]?=some (.int .u32 (t.S k)):=
 match k,h with
 |0,_=>rfl
 |1,_=>rfl
 |2,_=>rfl
 |3,_=>rfl
 |4,_=>rfl
 |5,_=>rfl
 |6,_=>rfl
 |7,_=>rfl
 |n+8,h=>absurd h (by omega)
theorem zpU(t:Tb)(x:Int)(k:Nat)(h:k<8):(tcs t).setIfInBounds (32+k*4+2) (.int .u32 x)=tcs {t with S:=up t.S k x}:=
 match k,h with
 |0,_=>rfl
 |1,_=>rfl
 |2,_=>rfl
 |3,_=>rfl
 |4,_=>rfl
 |5,_=>rfl
 |6,_=>rfl
 |7,_=>rfl
 |n+8,h=>absurd h (by omega)
theorem zos(t:Tb)(k:Nat)(h:k<8):(tcs t)[32+k*4+3]?=some (.int .i64 (t.U k)):=
 match k,h with
 |0,_=>rfl
 |1,_=>rfl
 |2,_=>rfl
 |3,_=>rfl
 |4,_=>rfl
 |5,_=>rfl
 |6,_=>rfl
 |7,_=>rfl
 |n+8,h=>absurd h (by omega)
theorem zpV(t:Tb)(x:Int)(k:Nat)(h:k<8):(tcs t).setIfInBounds (32+k*4+3) (.int .i64 x)=tcs {t with U:=up t.U k x}:=
 match k,h with
 |0,_=>rfl
 |1,_=>rfl
 |2,_=>rfl
 |3,_=>rfl
 |4,_=>rfl
 |5,_=>rfl
 |6,_=>rfl
 |7,_=>rfl
 |n+8,h=>absurd h (by omega)
end Go.Proofs.YtpiohehijkpghabGreatDoor.Gu.Hy
namespace Go.Proofs.YtpiohehijkpghabGreatDoor.Gu
open Go.RowKit
open Gu.Hy
theorem jH(pc:Int)(p0:0<=pc)(p1:pc<=4294967295)(w:World):
  Calls prog 123 #[.int .u32 pc] w fun e w'=>e=.returned (.int .u32 (pc/4%16))/\w'=w:=by
 go_enter func123,ntmps123
 go_wp2
 go_ret
 exact⟨by go_num,rfl⟩
theorem yt(pc:Int)(p0:0<=pc)(p1:pc<=4294967295)(w:World):
  Calls prog 126 #[.int .u32 pc] w fun e w'=>e=.returned (.int .u32 (pc/4%8))/\w'=w:=by
 go_enter func126,ntmps126
 go_wp2
 go_ret
 exact⟨by go_num,rfl⟩
theorem vj(n:Int)(w:World):
  Calls prog 150 #[.int .i64 n] w fun e w'=>e=.returned (.int .i64 (bnd n))/\w'=w:=by
 go_enter func150,ntmps150
 go_wp2
 all_goals(go_ret;refine⟨?_,rfl⟩;simp_all[bnd])
 all_goals omega
theorem zck(n:Int):0<=bnd n/\bnd n<=3:=by
 unfold bnd
 split
 ·omega
 ·split<;>omega
theorem zcl(n:Int)(w:World):
  Calls prog 124 #[.int .i64 n] w fun e w'=>e=.returned (.int .i64 (bnd (bnd n+1)))/\w'=w:=by
 obtain⟨b0,b1⟩:=zck n
 obtain⟨b,hb⟩:∃b,b=bnd n:=⟨_,rfl⟩
 have H:=vj n
 rw[<-hb]at b0 b1 H⊢
 clear hb
 go_enter func124,ntmps124
 go_wp2_with(go_at_call 150;refine(H _).mono ?_;rintro e w' ⟨rfl,rfl⟩)
 all_goals(go_ret;refine⟨?_,rfl⟩;unfold bnd;try simp)
 all_goals(repeat' split)<;>first|omega|rfl|skip
theorem zhv(n:Int)(w:World):
  Calls prog 125 #[.int .i64 n] w fun e w'=>e=.returned (.int .i64 (bnd (bnd n-1)))/\w'=w:=by
 obtain⟨b0,b1⟩:=zck n
 obtain⟨b,hb⟩:∃b,b=bnd n:=⟨_,rfl⟩
 have H:=vj n
 rw[<-hb]at b0 b1 H⊢
 clear hb
 go_enter func125,ntmps125
 go_wp2_with(go_at_call 150;refine(H _).mono ?_;rintro e w' ⟨rfl,rfl⟩)
 all_goals(go_ret;refine⟨?_,rfl⟩;unfold bnd;try simp)
 all_goals(repeat' split)<;>first|omega|rfl|skip
theorem below_drewN{B:Nat}{a w:World}(h:Below B a w)(n:Nat):Below B a (w.drewN n):=⟨h.os,h.tape,h.output,h.size,h.block⟩
theorem zdo(T:Array Value)(pc:Int)(p0:0<=pc)(p1:pc<=4294967295)(L G:Int)(B:Bool)(k:Nat)(hk:k<16)(he:Hid ((k:Int)=pc/4%16))(hB:Hid (B=decide (2<=L)))
  (hL:T[k*2]?=some (.int .i64 L)) (hG:T[k*2+1]?=some (.int .u32 G)) (w:World):
  Calls prog 148 #[.agg T,.int .u32 pc] w fun e w'=>e=.returned (.tuple #[.bool B,.int .u32 G])/\Below w.heap.size w w':=by
 have C:=jH pc p0 p1
 rw[<-he.out]at C
 have k0:(0:Int)<=(k:Int):=by omega
 have k1:(k:Int)<16:=by omega
 go_enter func148,ntmps148
 go_wp2_with fail
 refine(C _).mono ?_
 rintro e w' ⟨rfl,rfl⟩
 go_wp2_with fail
 go_region
 go_wp2_with fail
 go_ret2
 exact⟨by rw[hB.out];rfl,(((Below.refl _ _).alloc (Nat.le_refl _) _).alloc (by simp) _).drew⟩
theorem zfH(T:Array Value)(pc:Int)(p0:0<=pc)(p1:pc<=4294967295)(P A S U V:Int)(B:Bool)(a0:0<=A)(a1:A<=4294967295)(s0:0<=S)(s1:S<=4294967295)(k:Nat)(hk:k<8)(he:Hid ((k:Int)=pc/4%8))
  (hB:Hid (B=decide (P=pc/\2<=U))) (hV:Hid (V=if B then(A+S)%4294967296 else 0))
  (hP:T[32+k*4]?=some (.int .u32 P)) (hA:T[32+k*4+1]?=some (.int .u32 A)) (hS:T[32+k*4+2]?=some (.int .u32 S)) (hU:T[32+k*4+3]?=some (.int .i64 U)) (w:World):
  Calls prog 149 #[.agg T,.int .u32 pc] w fun e w'=>e=.returned (.tuple #[.int .u32 V,.bool B])/\Below w.heap.size w w':=by
 have C:=yt pc p0 p1
 rw[<-he.out]at C
 have k0:(0:Int)<=(k:Int):=by omega
 have k1:(k:Int)<8:=by omega
 go_enter func149,ntmps149
 go_wp2_with fail
 refine(C _).mono ?_
 rintro e w' ⟨rfl,rfl⟩
 go_wp2_with fail
 all_goals go_ret2
 all_goals(refine⟨?_,((Below.refl _ _).alloc (Nat.le_refl _) _).alloc (by simp) _⟩;rw[hV.out,hB.out];simp_all)
 all_goals(intro h;omega)
theorem yd:(prog.info? 51).map (·.size)=some 64:=by kernel_rfl
def Ones(H:Array Value):Prop:=H.all (·.oneCell')=true
theorem Ones.set{H:Array Value}(h:Ones H)(i:Nat)(v:Value)(hv:v.oneCell'=true):Ones (H.setIfInBounds i v):=by
 unfold Ones at*
 rw[Array.all_eq_true_iff_forall_mem]at*
 intro x hx
 obtain⟨j,hj,e⟩:=Array.getElem_of_mem hx
 have hj':j<H.size:=by simpa using hj
 rw[Array.getElem_setIfInBounds hj']at e
 split at e
 ·rw[<-e];exact hv
 ·rw[<-e];exact h _ (Array.getElem_mem hj')
theorem zh{B:Nat}{a w:World}(h:Below B a w){g:Nat}(hg:B<=g)(cs:Array Value):Below B a (w.setRow g cs):=
 ⟨h.os,h.tape,h.output,by simpa using h.size,fun k hk=>(setRow_other _ _ _ _ (by omega)).trans (h.block k hk)⟩
structure Tbl(T:Array Value):Prop where
 size:T.size=64
 ones:Ones T
theorem Tbl.set{T:Array Value}(h:Tbl T)(i:Nat)(k:IntKind)(v:Int):Tbl (T.setIfInBounds i (.int k v)):=⟨by simp[h.size],h.ones.set _ _ rfl⟩
theorem Tbl.info{T:Array Value}(h:Tbl T):(prog.info? 51).map (·.size)=some T.size:=by rw[yd,h.size]
theorem yw(T:Array Value)(hT:Hid (Tbl T))(pc tg:Int)(p0:0<=pc)(p1:pc<=4294967295)(L G N:Int)(k:Nat)(hk:k<16)(he:Hid ((k:Int)=pc/4%16))(hN:Hid (N=bnd (bnd L+1)))
  (hL:T[k*2]?=some (.int .i64 L)) (hG:T[k*2+1]?=some (.int .u32 G)) (w:World):
  Calls prog 92 #[.agg T,.int .u32 pc,.bool true,.int .u32 tg] w fun e w'=>e=.returned (.agg ((T.setIfInBounds (k*2) (.int .i64 N)).setIfInBounds (k*2+1) (.int .u32 tg)))/\Below w.heap.size w w':=by
 have C:=jH pc p0 p1
 have D:=zcl L
 rw[<-he.out]at C
 rw[<-hN.out]at D
 have k0:(0:Int)<=(k:Int):=by omega
 have k1:(k:Int)<16:=by omega
 have HD:Hid (Tbl ((T.setIfInBounds (k*2) (.int .i64 N)).setIfInBounds (k*2+1) (.int .u32 tg))):=(hT.out.set _ _ _).set _ _ _
 go_enter func92,ntmps92
 go_wp2_with fail
 refine(C _).mono ?_
 rintro e w' ⟨rfl,rfl⟩
 go_wp2_with fail
 refine(D _).mono ?_
 rintro e w' ⟨rfl,rfl⟩
 go_wp2_with(first|(refine wpList_load_row rfl 51 _ rfl _ rfl 51 _ (0,0) _ (heap_alloc2_old _ _ _) underlying51 rfl HD.out.info ?_)|(refine wpList_store_row rfl 51 _ _ rfl _ _ rfl rfl 51 _ (heap_alloc2_new _ _ _) HD.out.info HD.out.size.symm HD.out.ones ?_))
 exact bodyPost_ret (v:=.agg _) (results_cell_row results92 _ _ _ 51 _ (0,0) _ rfl (setRow_heap _ _ _ _ _ _ (heap_alloc2_new _ _ _)) underlying51 rfl HD.out.info) rfl ⟨rfl,zh (((Below.refl _ _).alloc (Nat.le_refl _) _).alloc (by simp) _) (by simp) _⟩
theorem vk(T:Array Value)(hT:Hid (Tbl T))(pc tg:Int)(p0:0<=pc)(p1:pc<=4294967295)(L N:Int)(k:Nat)(hk:k<16)(he:Hid ((k:Int)=pc/4%16))(hN:Hid (N=bnd (bnd L-1)))
  (hL:T[k*2]?=some (.int .i64 L)) (w:World):
  Calls prog 92 #[.agg T,.int .u32 pc,.bool false,.int .u32 tg] w fun e w'=>e=.returned (.agg (T.setIfInBounds (k*2) (.int .i64 N)))/\Below w.heap.size w w':=by
 have C:=jH pc p0 p1
 have D:=zhv L
 rw[<-he.out]at C
 rw[<-hN.out]at D
 have k0:(0:Int)<=(k:Int):=by omega
 have k1:(k:Int)<16:=by omega
 have HD:Hid (Tbl (T.setIfInBounds (k*2) (.int .i64 N))):=hT.out.set _ _ _
 go_enter func92,ntmps92
 go_wp2_with fail
 refine(C _).mono ?_
 rintro e w' ⟨rfl,rfl⟩
 go_wp2_with fail
 refine(D _).mono ?_
 rintro e w' ⟨rfl,rfl⟩
 go_wp2_with(first|(refine wpList_load_row rfl 51 _ rfl _ rfl 51 _ (0,0) _ (heap_alloc2_old _ _ _) underlying51 rfl HD.out.info ?_)|(refine wpList_store_row rfl 51 _ _ rfl _ _ rfl rfl 51 _ (heap_alloc2_new _ _ _) HD.out.info HD.out.size.symm HD.out.ones ?_))
 exact bodyPost_ret (v:=.agg _) (results_cell_row results92 _ _ _ 51 _ (0,0) _ rfl (setRow_heap _ _ _ _ _ _ (heap_alloc2_new _ _ _)) underlying51 rfl HD.out.info) rfl ⟨rfl,zh (((Below.refl _ _).alloc (Nat.le_refl _) _).alloc (by simp) _) (by simp) _⟩
def lS(P A S pc v:Int):Int:=if P=pc then(if v=(A+S)%4294967296 then S else(v-A)%4294967296)else 0
def lU(P A S U pc v:Int):Int:=if P=pc then(if v=(A+S)%4294967296 then bnd (bnd U+1)else 0)else 0
theorem ye:(prog.info? 48).map (·.size)=some 4:=by kernel_rfl
theorem zdp(pc v P A S U X Y:Int)(a0:0<=A)(a1:A<=4294967295)(s0:0<=S)(s1:S<=4294967295)(v0:0<=v)(v1:v<=4294967295)(hX:Hid (X=lS P A S pc v))(hY:Hid (Y=lU P A S U pc v))(w:World):
  Calls prog 127 #[.agg #[.int .u32 P,.int .u32 A,.int .u32 S,.int .i64 U],.int .u32 pc,.int .u32 v] w fun e w'=>e=.returned (.agg #[.int .u32 pc,.int .u32 v,.int .u32 X,.int .i64 Y])/\Below w.heap.size w w':=by
 obtain⟨N,hN⟩:∃N,N=bnd (bnd U+1):=⟨_,rfl⟩
 have D:=zcl U
 rw[<-hN]at D
 have HN:Hid (N=bnd (bnd U+1)):=hN
 clear hN
 by_cases hp:P=pc
 ·by_cases hv:v=(A+S)%4294967296
  ·have X1:X=S:=by rw[hX.out];simp[lS,hp,<-hv]
   have Y1:Y=N:=by rw[hY.out,HN.out];simp[lU,hp,<-hv]
   subst X1 Y1
   have hv':(v==(A+X)%4294967296)=true:=by simpa using hv
   clear hX hY HN hv
   go_enter func127,ntmps127
   go_wp2_with fail
   go_region_with (first|(go_at_call 124;refine(D _).mono ?_;rintro e w' ⟨rfl,rfl⟩))
   all_goals(go_wp2_with fail)
   all_goals exact bodyPost_ret (v:=.agg _) (results_cell_row results127 _ _ _ 48 _ (0,0) _ rfl (heap_alloc2_new _ _ _) underlying48 rfl ye) rfl ⟨rfl,(((Below.refl _ _).alloc (Nat.le_refl _) _).alloc (by simp) _).drew⟩
  ·have X1:X=(v-A)%4294967296:=by rw[hX.out];simp[lS,hp,hv]
   have Y1:Y=0:=by rw[hY.out];simp[lU,hp,hv]
   subst X1 Y1
   clear hX hY HN
   have hv':(v==(A+S)%4294967296)=false:=by simpa using hv
   go_enter func127,ntmps127
   go_wp2_with fail
   all_goals exact bodyPost_ret (v:=.agg _) (results_cell_row results127 _ _ _ 48 _ (0,0) _ rfl (heap_alloc2_new _ _ _) underlying48 rfl ye) rfl ⟨rfl,((Below.refl _ _).alloc (Nat.le_refl _) _).alloc (by simp) _⟩
 ·have X1:X=0:=by rw[hX.out];simp[lS,hp]
  have Y1:Y=0:=by rw[hY.out];simp[lU,hp]
  subst X1 Y1
  clear hX hY HN
  have hp':(P != pc)=true:=by simpa using hp
  go_enter func127,ntmps127
  go_wp2_with fail
  all_goals exact bodyPost_ret (v:=.agg _) (results_cell_row results127 _ _ _ 48 _ (0,0) _ rfl (heap_alloc2_new _ _ _) underlying48 rfl ye) rfl ⟨rfl,((Below.refl _ _).alloc (Nat.le_refl _) _).alloc (by simp) _⟩
abbrev zt:Array Value:=tcs ⟨fun _=>0,fun _=>0,fun _=>0,fun _=>0,fun _=>0,fun _=>0⟩
theorem zlQ:zt.size=64:=rfl
theorem zI{w:World}{b i:Nat}{cs:Array Value}{t:TypeId}{fr:Nat×Nat}{v:Value}(h:w.heap[b]?=some (.cells cs t fr)):(w.setCell ⟨b,i,none⟩ v).heap[b]?=some (.cells (cs.setIfInBounds i v) t fr):=by
 simp[World.setCell,Array.getElem?_modify,h]
theorem zo{w:World}{b g i:Nat}{o:Obj}{v:Value}(h:w.heap[g]?=some o)(hne:b≠g):(w.setCell ⟨b,i,none⟩ v).heap[g]?=some o:=by
 simp[World.setCell,Array.getElem?_modify,h,hne]
theorem row4{w:World}{b i0 i1 i2 i3:Nat}{cs:Array Value}{t:TypeId}{fr:Nat×Nat}{v0 v1 v2 v3:Value}(h:w.heap[b]?=some (.cells cs t fr)):((((w.setCell ⟨b,i0,none⟩ v0).setCell ⟨b,i1,none⟩ v1).setCell ⟨b,i2,none⟩ v2).setCell ⟨b,i3,none⟩ v3).heap[b]?=some (.cells ((((cs.setIfInBounds i0 v0).setIfInBounds i1 v1).setIfInBounds i2 v2).setIfInBounds i3 v3) t fr):=zI (zI (zI (zI h)))
theorem zpW{w:World}{b g i0 i1 i2 i3:Nat}{o:Obj}{v0 v1 v2 v3:Value}(h:w.heap[g]?=some o)(hne:b≠g):((((w.setCell ⟨b,i0,none⟩ v0).setCell ⟨b,i1,none⟩ v1).setCell ⟨b,i2,none⟩ v2).setCell ⟨b,i3,none⟩ v3).heap[g]?=some o:=zo (zo (zo (zo h hne) hne) hne) hne
theorem zot{w w2:World}{i0 i1 i2 i3:Nat}{v0 v1 v2 v3:Value}(h:Below w.heap.size w w2):Below w.heap.size w ((((w2.setCell ⟨w.heap.size,i0,none⟩ v0).setCell ⟨w.heap.size,i1,none⟩ v1).setCell ⟨w.heap.size,i2,none⟩ v2).setCell ⟨w.heap.size,i3,none⟩ v3):=(((h.setCell (Nat.le_refl _) _).setCell (Nat.le_refl _) _).setCell (Nat.le_refl _) _).setCell (Nat.le_refl _) _
theorem vl(T:Array Value)(hT:Hid (Tbl T))(pc v:Int)(p0:0<=pc)(p1:pc<=4294967295)(v0:0<=v)(v1:v<=4294967295)(P A S U X Y:Int)(a0:0<=A)(a1:A<=4294967295)(s0:0<=S)(s1:S<=4294967295)(k:Nat)(hk:k<8)(he:Hid ((k:Int)=pc/4%8))
  (hX:Hid (X=lS P A S pc v)) (hY:Hid (Y=lU P A S U pc v))
  (hP:T[32+k*4]?=some (.int .u32 P)) (hA:T[32+k*4+1]?=some (.int .u32 A)) (hS:T[32+k*4+2]?=some (.int .u32 S)) (hU:T[32+k*4+3]?=some (.int .i64 U)) (w:World):
  Calls prog 93 #[.agg T,.int .u32 pc,.int .u32 v] w fun e w'=>e=.returned (.agg ((((T.setIfInBounds (32+k*4) (.int .u32 pc)).setIfInBounds (32+k*4+1) (.int .u32 v)).setIfInBounds (32+k*4+2) (.int .u32 X)).setIfInBounds (32+k*4+3) (.int .i64 Y)))/\Below w.heap.size w w':=by
 have C:=yt pc p0 p1
 have D:=zdp pc v P A S U X Y a0 a1 s0 s1 v0 v1 hX hY
 rw[<-he.out]at C
 have k0:(0:Int)<=(k:Int):=by omega
 have k1:(k:Int)<8:=by omega
 have HD:Hid (Tbl ((((T.setIfInBounds (32+k*4) (.int .u32 pc)).setIfInBounds (32+k*4+1) (.int .u32 v)).setIfInBounds (32+k*4+2) (.int .u32 X)).setIfInBounds (32+k*4+3) (.int .i64 Y))):=(((hT.out.set _ _ _).set _ _ _).set _ _ _).set _ _ _
 go_enter func93,ntmps93
 go_wp2_with fail
 refine(C _).mono ?_
 rintro e w' ⟨rfl,rfl⟩
 go_wp2_with fail
 refine(D _).mono ?_
 rintro e w2 ⟨rfl,hk⟩
 have hs2:=hk.size
 simp at hs2
 have hb0:Below w.heap.size w w2:=(((Below.refl _ _).alloc (Nat.le_refl _) _).alloc (by simp) _).trans (hk.mono (by simp;omega))
 have hrow:w2.heap[w.heap.size]?=some (.cells T 51 (0,0)):=(hk.block _ (by simp;omega)).trans (heap_alloc2_old _ _ _)
 obtain⟨Z,hZ,hres⟩:∃Z:Array Value,Hid (Z.size=64)/\w2.heap[w.heap.size+1]?=some (.cells Z 51 (0,0)):=⟨zt,zlQ,(hk.block _ (by simp)).trans (heap_alloc2_new _ _ _)⟩
 have c0:=(cell_of_row w2 w.heap.size _ _ _ _ hrow).trans hP
 have c1:=(cell_of_row w2 w.heap.size _ _ _ _ hrow).trans hA
 have c2:=(cell_of_row w2 w.heap.size _ _ _ _ hrow).trans hS
 have c3:=(cell_of_row w2 w.heap.size _ _ _ _ hrow).trans hU
 have hf:∀j,w2.frozen? ⟨w.heap.size,j,none⟩=false:=fun j=>frozen_of_row _ _ j _ _ hrow
 have HR:Hid (w2.heap[w.heap.size]?=some (.cells T 51 (0,0))):=hrow
 have HZ:Hid (w2.heap[w.heap.size+1]?=some (.cells Z 51 (0,0))):=hres
 have hs3:w.heap.size<w2.heap.size:=by omega
 have hs4:w.heap.size+1<w2.heap.size:=by omega
 clear hk hrow hres hs2 C D hX hY hP hA hS hU
 have HR4:Hid (((((w2.setCell ⟨w.heap.size,32+k*4,none⟩ (.int .u32 pc)).setCell ⟨w.heap.size,32+k*4+1,none⟩ (.int .u32 v)).setCell ⟨w.heap.size,32+k*4+2,none⟩ (.int .u32 X)).setCell ⟨w.heap.size,32+k*4+3,none⟩ (.int .i64 Y)).heap[w.heap.size]?=some (.cells ((((T.setIfInBounds (32+k*4) (.int .u32 pc)).setIfInBounds (32+k*4+1) (.int .u32 v)).setIfInBounds (32+k*4+2) (.int .u32 X)).setIfInBounds (32+k*4+3) (.int .i64 Y)) 51 (0,0))):=row4 HR.out
 have HZ4:Hid (((((w2.setCell ⟨w.heap.size,32+k*4,none⟩ (.int .u32 pc)).setCell ⟨w.heap.size,32+k*4+1,none⟩ (.int .u32 v)).setCell ⟨w.heap.size,32+k*4+2,none⟩ (.int .u32 X)).setCell ⟨w.heap.size,32+k*4+3,none⟩ (.int .i64 Y)).heap[w.heap.size+1]?=some (.cells Z 51 (0,0))):=zpW HZ.out (by omega)
 have HB4:Hid (Below w.heap.size w ((((w2.setCell ⟨w.heap.size,32+k*4,none⟩ (.int .u32 pc)).setCell ⟨w.heap.size,32+k*4+1,none⟩ (.int .u32 v)).setCell ⟨w.heap.size,32+k*4+2,none⟩ (.int .u32 X)).setCell ⟨w.heap.size,32+k*4+3,none⟩ (.int .i64 Y))):=zot hb0
 clear hb0 HR HZ
 go_upto_region 3 with fail
 go_wp2_with(first|(refine wpList_load_row rfl 51 _ rfl _ rfl 51 _ (0,0) _ HR4.out underlying51 rfl HD.out.info ?_)|(refine wpList_store_row rfl 51 _ _ rfl _ _ rfl rfl 51 _ HZ4.out HD.out.info (hZ.out.trans HD.out.size.symm) HD.out.ones ?_))
 exact bodyPost_ret (v:=.agg _) (results_cell_row results93 _ _ _ 51 _ (0,0) _ rfl (setRow_heap _ _ _ _ _ _ HZ4.out) underlying51 rfl HD.out.info) rfl ⟨rfl,zh HB4.out (by omega) _⟩
end Go.Proofs.YtpiohehijkpghabGreatDoor.Gu
namespace Go.Proofs.YtpiohehijkpghabGreatDoor.Gu
open Go.RowKit
open Gu.Hy
structure TbOk(t:Tb):Prop where
 G:∀i,i<16->0<=t.G i/\t.G i<=4294967295
 P:∀i,i<8->0<=t.P i/\t.P i<=4294967295
 A:∀i,i<8->0<=t.A i/\t.A i<=4294967295
 S:∀i,i<8->0<=t.S i/\t.S i<=4294967295
theorem zdq(t:Tb):Tbl (tcs t):=⟨rfl,by unfold Ones;simp[Value.oneCell']⟩
def zdr(t:Tb)(k:Nat)(tk:Bool)(g:Int):Tb:=if tk then{t with L:=up t.L k (bnd (bnd (t.L k)+1)),G:=up t.G k g}else{t with L:=up t.L k (bnd (bnd (t.L k)-1))}
def zds(t:Tb)(k:Nat)(pc v:Int):Tb:={t with P:=up t.P k pc,A:=up t.A k v,S:=up t.S k (lS (t.P k) (t.A k) (t.S k) pc v),U:=up t.U k (lU (t.P k) (t.A k) (t.S k) (t.U k) pc v)}
abbrev kb(pc:Int):Nat:=(pc/4%16).toNat
abbrev kw(pc:Int):Nat:=(pc/4%8).toNat
theorem gB(t:Tb)(pc tg:Int)(p0:0<=pc)(p1:pc<=4294967295)(tk:Bool)(w:World):
  Calls prog 92 #[.agg (tcs t),.int .u32 pc,.bool tk,.int .u32 tg] w fun e w'=>e=.returned (.agg (tcs (zdr t (kb pc) tk tg)))/\Below w.heap.size w w':=by
 have hk:kb pc<16:=by unfold kb;omega
 have he:Hid ((kb pc:Int)=pc/4%16):=by show _=_;unfold kb;omega
 cases tk
 ·have h:=vk (tcs t) (zdq t) pc tg p0 p1 (t.L (kb pc)) _ (kb pc) hk he rfl (zlP t _ hk) w
  rw[zon t _ _ hk]at h
  exact h
 ·have h:=yw (tcs t) (zdq t) pc tg p0 p1 (t.L (kb pc)) (t.G (kb pc)) _ (kb pc) hk he rfl (zlP t _ hk) (zoo t _ hk) w
  rw[zon t _ _ hk,zpS _ _ _ hk]at h
  exact h
theorem gV(t:Tb)(ht:TbOk t)(pc v:Int)(p0:0<=pc)(p1:pc<=4294967295)(v0:0<=v)(v1:v<=4294967295)(w:World):
  Calls prog 93 #[.agg (tcs t),.int .u32 pc,.int .u32 v] w fun e w'=>e=.returned (.agg (tcs (zds t (kw pc) pc v)))/\Below w.heap.size w w':=by
 have hk:kw pc<8:=by unfold kw;omega
 have he:Hid ((kw pc:Int)=pc/4%8):=by show _=_;unfold kw;omega
 have h:=vl (tcs t) (zdq t) pc v p0 p1 v0 v1 (t.P (kw pc)) (t.A (kw pc)) (t.S (kw pc)) (t.U (kw pc)) _ _ (ht.A _ hk).1 (ht.A _ hk).2 (ht.S _ hk).1 (ht.S _ hk).2 (kw pc) hk he rfl rfl (zop t _ hk) (zoq t _ hk) (zor t _ hk) (zos t _ hk) w
 rw[zoh t _ _ hk,zpT _ _ _ hk,zpU _ _ _ hk,zpV _ _ _ hk]at h
 exact h
def zou(t:Tb)(k:Nat):Bool:=decide (2<=t.L k)
def zlR(t:Tb)(k:Nat)(pc:Int):Bool:=decide (t.P k=pc/\2<=t.U k)
def isV(t:Tb)(k:Nat)(pc:Int):Int:=if zlR t k pc then(t.A k+t.S k)%4294967296 else 0
theorem gBr(t:Tb)(pc:Int)(p0:0<=pc)(p1:pc<=4294967295)(w:World):
  Calls prog 148 #[.agg (tcs t),.int .u32 pc] w fun e w'=>e=.returned (.tuple #[.bool (zou t (kb pc)),.int .u32 (t.G (kb pc))])/\Below w.heap.size w w':=by
 have hk:kb pc<16:=by unfold kb;omega
 have he:Hid ((kb pc:Int)=pc/4%16):=by show _=_;unfold kb;omega
 exact zdo (tcs t) pc p0 p1 _ _ _ (kb pc) hk he rfl (zlP t _ hk) (zoo t _ hk) w
theorem gVa(t:Tb)(ht:TbOk t)(pc:Int)(p0:0<=pc)(p1:pc<=4294967295)(w:World):
  Calls prog 149 #[.agg (tcs t),.int .u32 pc] w fun e w'=>e=.returned (.tuple #[.int .u32 (isV t (kw pc) pc),.bool (zlR t (kw pc) pc)])/\Below w.heap.size w w':=by
 have hk:kw pc<8:=by unfold kw;omega
 have he:Hid ((kw pc:Int)=pc/4%8):=by show _=_;unfold kw;omega
 exact zfH (tcs t) pc p0 p1 _ _ _ _ _ _ (ht.A _ hk).1 (ht.A _ hk).2 (ht.S _ hk).1 (ht.S _ hk).2 (kw pc) hk he rfl rfl (zop t _ hk) (zoq t _ hk) (zor t _ hk) (zos t _ hk) w
theorem zr{w:World}{b:Nat}{o:Obj}(h:w.heap[b]?=some o):b<w.heap.size:=(Array.getElem?_eq_some_iff.1 h).1
theorem heap_alloc_new(w:World)(o:Obj):(w.alloc o).heap[w.heap.size]?=some o:=by
 show(w.heap.push o)[w.heap.size]?=some o
 simp
theorem zc{P:Program}{ops:Array Oper}{S:World->Prop}{op:Oper}{a:Act}(hw:Region.wanted op (yielded ops a.tmps)=true)(ty:TypeId)(x:Operand)(ho:op.op=.load ty x)
  (g:Nat) (hx:a.eval x=.pointer (some ⟨g,0,none⟩)) (t:TypeId) (cs:Array Value) (fr:Nat×Nat) (d:TypeDesc) (hS:∀w,S w->w.heap[g]?=some (.cells cs t fr))
  (hu:P.underlying ty=some d) (hd:(match d with|.struct _|.array _ _=>true|_=>false)=true) (hi:(P.info? ty).map (·.size)=some cs.size):YieldsIf P ops S op (.agg cs) a:=
 .inl ⟨hw,fun w hw'=>by
  unfold execOp
  simp only[ho,hx,Instr.loadAt,Instr.sureAddr,Sem.run_bind,Sem.run_pure,Result.andThen_ok,run_loadVar_row w g t ty cs fr d (hS w hw') hu hd hi]⟩
theorem qV{P:Program}{ops:Array Oper}{rest:List Oper}{o:Oper}{a:Act}{W:World}{Q:Exit->Act->World->Prop}(hgd:o.guard=none)(ty:TypeId)(x y:Operand)(ho:o.op=.store ty x y)
  (cells:Array Value) (t:TypeId) (old:Array Value) (hx:a.eval x=.pointer (some ⟨W.heap.size,0,none⟩)) (hy:a.eval y=.agg cells)
  (hi:(P.info? ty).map (·.size)=some cells.size) (hold:old.size=cells.size) (h1:cells.all (·.oneCell')=true)
  (h:∀V:World,V.heap[W.heap.size]?=some (.cells cells t (0,0))->Below W.heap.size W V->wpList P ops Q rest (a.put o.dst undef) V):wpList P ops Q (o::rest) a (W.alloc (.cells old t (0,0))):=
 wpList_store_row hgd ty x y ho W.heap.size cells hx hy t old (heap_alloc_new _ _) hi hold h1 (h _ (setRow_heap _ _ _ _ _ _ (heap_alloc_new _ _)) (zh ((Below.refl _ _).alloc (Nat.le_refl _) _) (Nat.le_refl _) _))
end Go.Proofs.YtpiohehijkpghabGreatDoor.Gu
