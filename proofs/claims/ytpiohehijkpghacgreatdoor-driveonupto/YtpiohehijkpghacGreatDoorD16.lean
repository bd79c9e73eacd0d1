/- The small functions of package order, and of the document: what they come to. -/
import Derived.Test.YtpiohehijkpghacGreatDoorD15
open Array renaming getElem?_eq_some_iff->Ai,getElem?_modify->Am
open Go renaming heap_alloc2_new->Ad,results_cell_row->Ae,wpList_store_row->Af,bodyPost_ret->Ag,heap_alloc2_old->Ah,setRow_heap->Aj,cell_of_row->Ak,wpList_load_row->WZ,run_loadVar_row->Ao
open Go.Region renaming wanted->Aq
open Go.Result renaming andThen_ok->An
open Go.RowKit.Below renaming refl->Ab
open Go.Sem renaming run_bind->Ar,run_pure->WY
open Go.World renaming setCell->Ap
open Nat renaming le_refl->Aa
set_option maxHeartbeats 1000000
set_option maxRecDepth 20000
set_option linter.unusedSimpArgs false
set_option linter.unusedVariables false
open Go.Proofs.Tryz
namespace Go.Proofs.YtpiohehijkpghacGreatDoor.Gu
open Go.RowKit
open Gu.Hy
theorem yc:(prog.info? 56).map (·.size)=some 64:=by kernel_rfl
def Ones(H:Array Value):Prop:=H.all (·.oneCell')=true
theorem Ones.set{H:Array Value}(h:Ones H)(i:Nat)(v:Value)(hv:v.oneCell'=true):Ones (H.setIfInBounds i v):=by
 unfold Ones at*
 rw[Array.all_eq_true_iff_forall_mem]at*
 intro x hx
 obtain⟨j,hj,e⟩:=Array.getElem_of_mem hx
 have hj':j<H.size:=by simpa using hj
 rw[Array.getElem_setIfInBounds hj']at e
 split at e
 ·rw[<-e];exact hv
 ·rw[<-e];exact h _ (Array.getElem_mem hj')
theorem zc{B:Nat}{a w:World}(h:Below B a w){g:Nat}(hg:B<=g)(cs:Array Value):Below B a (w.setRow g cs):=
 ⟨h.os,h.tape,h.output,by simpa using h.size,fun k hk=>(setRow_other _ _ _ _ (by omega)).trans (h.block k hk)⟩
structure Tbl(T:Array Value):Prop where
 size:T.size=64
 ones:Ones T
theorem Tbl.set{T:Array Value}(h:Tbl T)(i:Nat)(k:IntKind)(v:Int):Tbl (T.setIfInBounds i (.int k v)):=⟨by simp[h.size],h.ones.set _ _ rfl⟩
theorem Tbl.info{T:Array Value}(h:Tbl T):(prog.info? 56).map (·.size)=some T.size:=by rw[yc,h.size]
theorem yp(T:Array Value)(hT:Hid (Tbl T))(pc tg:Int)(p0:0<=pc)(p1:pc<=4294967295)(L G N:Int)(k:Nat)(hk:k<16)(he:Hid ((k:Int)=pc/4%16))(hN:Hid (N=bnd (bnd L+1)))
  (hL:T[k*2]?=some (.int .i64 L)) (hG:T[k*2+1]?=some (.int .u32 G)) (w:World):
  Calls prog 117 #[.agg T,.int .u32 pc,.bool true,.int .u32 tg] w fun e w'=>e=.returned (.agg ((T.setIfInBounds (k*2) (.int .i64 N)).setIfInBounds (k*2+1) (.int .u32 tg)))/\Below w.heap.size w w':=by
 have C:=jC pc p0 p1
 have D:=zb9 L
 rw[<-he.out]at C
 rw[<-hN.out]at D
 have k0:(0:Int)<=(k:Int):=by omega
 have k1:(k:Int)<16:=by omega
 have HD:Hid (Tbl ((T.setIfInBounds (k*2) (.int .i64 N)).setIfInBounds (k*2+1) (.int .u32 tg))):=(hT.out.set _ _ _).set _ _ _
 go_enter func117,ntmps117
 go_wp2_with fail
 refine(C _).mono ?_
 rintro e w' ⟨rfl,rfl⟩
 go_wp2_with fail
 refine(D _).mono ?_
 rintro e w' ⟨rfl,rfl⟩
 go_wp2_with(first|(refine WZ rfl 56 _ rfl _ rfl 56 _ (0,0) _ (Ah _ _ _) underlying56 rfl HD.out.info ?_)|(refine Af rfl 56 _ _ rfl _ _ rfl rfl 56 _ (Ad _ _ _) HD.out.info HD.out.size.symm HD.out.ones ?_))
 exact Ag (v:=.agg _) (Ae results117 _ _ _ 56 _ (0,0) _ rfl (Aj _ _ _ _ _ _ (Ad _ _ _)) underlying56 rfl HD.out.info) rfl ⟨rfl,zc (((Ab _ _).alloc (Aa _) _).alloc (by simp) _) (by simp) _⟩
theorem vE(T:Array Value)(hT:Hid (Tbl T))(pc tg:Int)(p0:0<=pc)(p1:pc<=4294967295)(L N:Int)(k:Nat)(hk:k<16)(he:Hid ((k:Int)=pc/4%16))(hN:Hid (N=bnd (bnd L-1)))
  (hL:T[k*2]?=some (.int .i64 L)) (w:World):
  Calls prog 117 #[.agg T,.int .u32 pc,.bool false,.int .u32 tg] w fun e w'=>e=.returned (.agg (T.setIfInBounds (k*2) (.int .i64 N)))/\Below w.heap.size w w':=by
 have C:=jC pc p0 p1
 have D:=zhm L
 rw[<-he.out]at C
 rw[<-hN.out]at D
 have k0:(0:Int)<=(k:Int):=by omega
 have k1:(k:Int)<16:=by omega
 have HD:Hid (Tbl (T.setIfInBounds (k*2) (.int .i64 N))):=hT.out.set _ _ _
 go_enter func117,ntmps117
 go_wp2_with fail
 refine(C _).mono ?_
 rintro e w' ⟨rfl,rfl⟩
 go_wp2_with fail
 refine(D _).mono ?_
 rintro e w' ⟨rfl,rfl⟩
 go_wp2_with(first|(refine WZ rfl 56 _ rfl _ rfl 56 _ (0,0) _ (Ah _ _ _) underlying56 rfl HD.out.info ?_)|(refine Af rfl 56 _ _ rfl _ _ rfl rfl 56 _ (Ad _ _ _) HD.out.info HD.out.size.symm HD.out.ones ?_))
 exact Ag (v:=.agg _) (Ae results117 _ _ _ 56 _ (0,0) _ rfl (Aj _ _ _ _ _ _ (Ad _ _ _)) underlying56 rfl HD.out.info) rfl ⟨rfl,zc (((Ab _ _).alloc (Aa _) _).alloc (by simp) _) (by simp) _⟩
def lS(P A S pc v:Int):Int:=if P=pc then(if v=(A+S)%4294967296 then S else(v-A)%4294967296)else 0
def lU(P A S U pc v:Int):Int:=if P=pc then(if v=(A+S)%4294967296 then bnd (bnd U+1)else 0)else 0
theorem yd:(prog.info? 53).map (·.size)=some 4:=by kernel_rfl
theorem zdf(pc v P A S U X Y:Int)(a0:0<=A)(a1:A<=4294967295)(s0:0<=S)(s1:S<=4294967295)(v0:0<=v)(v1:v<=4294967295)(hX:Hid (X=lS P A S pc v))(hY:Hid (Y=lU P A S U pc v))(w:World):
  Calls prog 154 #[.agg #[.int .u32 P,.int .u32 A,.int .u32 S,.int .i64 U],.int .u32 pc,.int .u32 v] w fun e w'=>e=.returned (.agg #[.int .u32 pc,.int .u32 v,.int .u32 X,.int .i64 Y])/\Below w.heap.size w w':=by
 obtain⟨N,hN⟩:∃N,N=bnd (bnd U+1):=⟨_,rfl⟩
 have D:=zb9 U
 rw[<-hN]at D
 have HN:Hid (N=bnd (bnd U+1)):=hN
 clear hN
 by_cases hp:P=pc
 ·by_cases hv:v=(A+S)%4294967296
  ·have X1:X=S:=by rw[hX.out];simp[lS,hp,<-hv]
   have Y1:Y=N:=by rw[hY.out,HN.out];simp[lU,hp,<-hv]
   subst X1 Y1
   have hv':(v==(A+X)%4294967296)=true:=by simpa using hv
   clear hX hY HN hv
   go_enter func154,ntmps154
   go_wp2_with fail
   go_region_with (first|(go_at_call 151;refine(D _).mono ?_;rintro e w' ⟨rfl,rfl⟩))
   all_goals(go_wp2_with fail)
   all_goals exact Ag (v:=.agg _) (Ae results154 _ _ _ 53 _ (0,0) _ rfl (Ad _ _ _) underlying53 rfl yd) rfl ⟨rfl,(((Ab _ _).alloc (Aa _) _).alloc (by simp) _).drew⟩
  ·have X1:X=(v-A)%4294967296:=by rw[hX.out];simp[lS,hp,hv]
   have Y1:Y=0:=by rw[hY.out];simp[lU,hp,hv]
   subst X1 Y1
   clear hX hY HN
   have hv':(v==(A+S)%4294967296)=false:=by simpa using hv
   go_enter func154,ntmps154
   go_wp2_with fail
   all_goals exact Ag (v:=.agg _) (Ae results154 _ _ _ 53 _ (0,0) _ rfl (Ad _ _ _) underlying53 rfl yd) rfl ⟨rfl,((Ab _ _).alloc (Aa _) _).alloc (by simp) _⟩
 ·have X1:X=0:=by rw[hX.out];simp[lS,hp]
  have Y1:Y=0:=by rw[hY.out];simp[lU,hp]
  subst X1 Y1
  clear hX hY HN
  have hp':(P != pc)=true:=by simpa using hp
  go_enter func154,ntmps154
  go_wp2_with fail
  all_goals exact Ag (v:=.agg _) (Ae results154 _ _ _ 53 _ (0,0) _ rfl (Ad _ _ _) underlying53 rfl yd) rfl ⟨rfl,((Ab _ _).alloc (Aa _) _).alloc (by simp) _⟩
abbrev zt:Array Value:=tcs ⟨fun _=>0,fun _=>0,fun _=>0,fun _=>0,fun _=>0,fun _=>0⟩
theorem zlG:zt.size=64:=rfl
theorem zy{w:World}{b i:Nat}{cs:Array Value}{t:TypeId}{fr:Nat×Nat}{v:Value}(h:w.heap[b]?=some (.cells cs t fr)):(w.setCell ⟨b,i,none⟩ v).heap[b]?=some (.cells (cs.setIfInBounds i v) t fr):=by
 simp[Ap,Am,h]
theorem zh{w:World}{b g i:Nat}{o:Obj}{v:Value}(h:w.heap[g]?=some o)(hne:b≠g):(w.setCell ⟨b,i,none⟩ v).heap[g]?=some o:=by
 simp[Ap,Am,h,hne]
theorem row4{w:World}{b i0 i1 i2 i3:Nat}{cs:Array Value}{t:TypeId}{fr:Nat×Nat}{v0 v1 v2 v3:Value}(h:w.heap[b]?=some (.cells cs t fr)):((((w.setCell ⟨b,i0,none⟩ v0).setCell ⟨b,i1,none⟩ v1).setCell ⟨b,i2,none⟩ v2).setCell ⟨b,i3,none⟩ v3).heap[b]?=some (.cells ((((cs.setIfInBounds i0 v0).setIfInBounds i1 v1).setIfInBounds i2 v2).setIfInBounds i3 v3) t fr):=zy (zy (zy (zy h)))
theorem zpl{w:World}{b g i0 i1 i2 i3:Nat}{o:Obj}{v0 v1 v2 v3:Value}(h:w.heap[g]?=some o)(hne:b≠g):((((w.setCell ⟨b,i0,none⟩ v0).setCell ⟨b,i1,none⟩ v1).setCell ⟨b,i2,none⟩ v2).setCell ⟨b,i3,none⟩ v3).heap[g]?=some o:=zh (zh (zh (zh h hne) hne) hne) hne
theorem znP{w w2:World}{i0 i1 i2 i3:Nat}{v0 v1 v2 v3:Value}(h:Below w.heap.size w w2):Below w.heap.size w ((((w2.setCell ⟨w.heap.size,i0,none⟩ v0).setCell ⟨w.heap.size,i1,none⟩ v1).setCell ⟨w.heap.size,i2,none⟩ v2).setCell ⟨w.heap.size,i3,none⟩ v3):=(((h.setCell (Aa _) _).setCell (Aa _) _).setCell (Aa _) _).setCell (Aa _) _
theorem vF(T:Array Value)(hT:Hid (Tbl T))(pc v:Int)(p0:0<=pc)(p1:pc<=4294967295)(v0:0<=v)(v1:v<=4294967295)(P A S U X Y:Int)(a0:0<=A)(a1:A<=4294967295)(s0:0<=S)(s1:S<=4294967295)(k:Nat)(hk:k<8)(he:Hid ((k:Int)=pc/4%8))
  (hX:Hid (X=lS P A S pc v)) (hY:Hid (Y=lU P A S U pc v))
  (hP:T[32+k*4]?=some (.int .u32 P)) (hA:T[32+k*4+1]?=some (.int .u32 A)) (hS:T[32+k*4+2]?=some (.int .u32 S)) (hU:T[32+k*4+3]?=some (.int .i64 U)) (w:World):
  Calls prog 118 #[.agg T,.int .u32 pc,.int .u32 v] w fun e w'=>e=.returned (.agg ((((T.setIfInBounds (32+k*4) (.int .u32 pc)).setIfInBounds (32+k*4+1) (.int .u32 v)).setIfInBounds (32+k*4+2) (.int .u32 X)).setIfInBounds (32+k*4+3) (.int .i64 Y)))/\Below w.heap.size w w':=by
 have C:=yl pc p0 p1
 have D:=zdf pc v P A S U X Y a0 a1 s0 s1 v0 v1 hX hY
 rw[<-he.out]at C
 have k0:(0:Int)<=(k:Int):=by omega
 have k1:(k:Int)<8:=by omega
 have HD:Hid (Tbl ((((T.setIfInBounds (32+k*4) (.int .u32 pc)).setIfInBounds (32+k*4+1) (.int .u32 v)).setIfInBounds (32+k*4+2) (.int .u32 X)).setIfInBounds (32+k*4+3) (.int .i64 Y))):=(((hT.out.set _ _ _).set _ _ _).set _ _ _).set _ _ _
 go_enter func118,ntmps118
 go_wp2_with fail
 refine(C _).mono ?_
 rintro e w' ⟨rfl,rfl⟩
 go_wp2_with fail
 refine(D _).mono ?_
 rintro e w2 ⟨rfl,hk⟩
 have hs2:=hk.size
 simp at hs2
 have hb0:Below w.heap.size w w2:=(((Ab _ _).alloc (Aa _) _).alloc (by simp) _).trans (hk.mono (by simp;omega))
 have hrow:w2.heap[w.heap.size]?=some (.cells T 56 (0,0)):=(hk.block _ (by simp;omega)).trans (Ah _ _ _)
 obtain⟨Z,hZ,hres⟩:∃Z:Array Value,Hid (Z.size=64)/\w2.heap[w.heap.size+1]?=some (.cells Z 56 (0,0)):=⟨zt,zlG,(hk.block _ (by simp)).trans (Ad _ _ _)⟩
 have c0:=(Ak w2 w.heap.size _ _ _ _ hrow).trans hP
 have c1:=(Ak w2 w.heap.size _ _ _ _ hrow).trans hA
 have c2:=(Ak w2 w.heap.size _ _ _ _ hrow).trans hS
 have c3:=(Ak w2 w.heap.size _ _ _ _ hrow).trans hU
 have hf:∀j,w2.frozen? ⟨w.heap.size,j,none⟩=false:=fun j=>frozen_of_row _ _ j _ _ hrow
 have HR:Hid (w2.heap[w.heap.size]?=some (.cells T 56 (0,0))):=hrow
 have HZ:Hid (w2.heap[w.heap.size+1]?=some (.cells Z 56 (0,0))):=hres
 have hs3:w.heap.size<w2.heap.size:=by omega
 have hs4:w.heap.size+1<w2.heap.size:=by omega
 clear hk hrow hres hs2 C D hX hY hP hA hS hU
 have HR4:Hid (((((w2.setCell ⟨w.heap.size,32+k*4,none⟩ (.int .u32 pc)).setCell ⟨w.heap.size,32+k*4+1,none⟩ (.int .u32 v)).setCell ⟨w.heap.size,32+k*4+2,none⟩ (.int .u32 X)).setCell ⟨w.heap.size,32+k*4+3,none⟩ (.int .i64 Y)).heap[w.heap.size]?=some (.cells ((((T.setIfInBounds (32+k*4) (.int .u32 pc)).setIfInBounds (32+k*4+1) (.int .u32 v)).setIfInBounds (32+k*4+2) (.int .u32 X)).setIfInBounds (32+k*4+3) (.int .i64 Y)) 56 (0,0))):=row4 HR.out
 have HZ4:Hid (((((w2.setCell ⟨w.heap.size,32+k*4,none⟩ (.int .u32 pc)).setCell ⟨w.heap.size,32+k*4+1,none⟩ (.int .u32 v)).setCell ⟨w.heap.size,32+k*4+2,none⟩ (.int .u32 X)).setCell ⟨w.heap.size,32+k*4+3,none⟩ (.int .i64 Y)).heap[w.heap.size+1]?=some (.cells Z 56 (0,0))):=zpl HZ.out (by omega)
 have HB4:Hid (Below w.heap.size w ((((w2.setCell ⟨w.heap.size,32+k*4,none⟩ (.int .u32 pc)).setCell ⟨w.heap.size,32+k*4+1,none⟩ (.int .u32 v)).setCell ⟨w.heap.size,32+k*4+2,none⟩ (.int .u32 X)).setCell ⟨w.heap.size,32+k*4+3,none⟩ (.int .i64 Y))):=znP hb0
 clear hb0 HR HZ
 go_upto_region 3 with fail
 go_wp2_with(first|(refine WZ rfl 56 _ rfl _ rfl 56 _ (0,0) _ HR4.out underlying56 rfl HD.out.info ?_)|(refine Af rfl 56 _ _ rfl _ _ rfl rfl 56 _ HZ4.out HD.out.info (hZ.out.trans HD.out.size.symm) HD.out.ones ?_))
 exact Ag (v:=.agg _) (Ae results118 _ _ _ 56 _ (0,0) _ rfl (Aj _ _ _ _ _ _ HZ4.out) underlying56 rfl HD.out.info) rfl ⟨rfl,zc HB4.out (by omega) _⟩
end Go.Proofs.YtpiohehijkpghacGreatDoor.Gu
namespace Go.Proofs.YtpiohehijkpghacGreatDoor.Gu
open Go.RowKit
open Gu.Hy
structure TbOk(t:Tb):Prop where
 G:∀i,i<16->0<=t.G i/\t.G i<=4294967295
 P:∀i,i<8->0<=t.P i/\t.P i<=4294967295
 A:∀i,i<8->0<=t.A i/\t.A i<=4294967295
 S:∀i,i<8->0<=t.S i/\t.S i<=4294967295
theorem zdg(t:Tb):Tbl (tcs t):=⟨rfl,by unfold Ones;simp[Value.oneCell']⟩
def zdh(t:Tb)(k:Nat)(tk:Bool)(g:Int):Tb:=if tk then{t with L:=up t.L k (bnd (bnd (t.L k)+1)),G:=up t.G k g}else{t with L:=up t.L k (bnd (bnd (t.L k)-1))}
def zdi(t:Tb)(k:Nat)(pc v:Int):Tb:={t with P:=up t.P k pc,A:=up t.A k v,S:=up t.S k (lS (t.P k) (t.A k) (t.S k) pc v),U:=up t.U k (lU (t.P k) (t.A k) (t.S k) (t.U k) pc v)}
abbrev kb(pc:Int):Nat:=(pc/4%16).toNat
abbrev kw(pc:Int):Nat:=(pc/4%8).toNat
theorem gB(t:Tb)(pc tg:Int)(p0:0<=pc)(p1:pc<=4294967295)(tk:Bool)(w:World):
  Calls prog 117 #[.agg (tcs t),.int .u32 pc,.bool tk,.int .u32 tg] w fun e w'=>e=.returned (.agg (tcs (zdh t (kb pc) tk tg)))/\Below w.heap.size w w':=by
 have hk:kb pc<16:=by unfold kb;omega
 have he:Hid ((kb pc:Int)=pc/4%16):=by show _=_;unfold kb;omega
 cases tk
 ·have h:=vE (tcs t) (zdg t) pc tg p0 p1 (t.L (kb pc)) _ (kb pc) hk he rfl (zlb t _ hk) w
  rw[zni t _ _ hk]at h
  exact h
 ·have h:=yp (tcs t) (zdg t) pc tg p0 p1 (t.L (kb pc)) (t.G (kb pc)) _ (kb pc) hk he rfl (zlb t _ hk) (znj t _ hk) w
  rw[zni t _ _ hk,zo3 _ _ _ hk]at h
  exact h
theorem gV(t:Tb)(ht:TbOk t)(pc v:Int)(p0:0<=pc)(p1:pc<=4294967295)(v0:0<=v)(v1:v<=4294967295)(w:World):
  Calls prog 118 #[.agg (tcs t),.int .u32 pc,.int .u32 v] w fun e w'=>e=.returned (.agg (tcs (zdi t (kw pc) pc v)))/\Below w.heap.size w w':=by
 have hk:kw pc<8:=by unfold kw;omega
 have he:Hid ((kw pc:Int)=pc/4%8):=by show _=_;unfold kw;omega
 have h:=vF (tcs t) (zdg t) pc v p0 p1 v0 v1 (t.P (kw pc)) (t.A (kw pc)) (t.S (kw pc)) (t.U (kw pc)) _ _ (ht.A _ hk).1 (ht.A _ hk).2 (ht.S _ hk).1 (ht.S _ hk).2 (kw pc) hk he rfl rfl (znk t _ hk) (znl t _ hk) (znm t _ hk) (znn t _ hk) w
 rw[znb t _ _ hk,zo4 _ _ _ hk,zo5 _ _ _ hk,zo6 _ _ _ hk]at h
 exact h
def znQ(t:Tb)(k:Nat):Bool:=decide (2<=t.L k)
def zlH(t:Tb)(k:Nat)(pc:Int):Bool:=decide (t.P k=pc/\2<=t.U k)
def isV(t:Tb)(k:Nat)(pc:Int):Int:=if zlH t k pc then(t.A k+t.S k)%4294967296 else 0
theorem gBr(t:Tb)(pc:Int)(p0:0<=pc)(p1:pc<=4294967295)(w:World):
  Calls prog 172 #[.agg (tcs t),.int .u32 pc] w fun e w'=>e=.returned (.tuple #[.bool (znQ t (kb pc)),.int .u32 (t.G (kb pc))])/\Below w.heap.size w w':=by
 have hk:kb pc<16:=by unfold kb;omega
 have he:Hid ((kb pc:Int)=pc/4%16):=by show _=_;unfold kb;omega
 exact zde (tcs t) pc p0 p1 _ _ _ (kb pc) hk he rfl (zlb t _ hk) (znj t _ hk) w
theorem gVa(t:Tb)(ht:TbOk t)(pc:Int)(p0:0<=pc)(p1:pc<=4294967295)(w:World):
  Calls prog 173 #[.agg (tcs t),.int .u32 pc] w fun e w'=>e=.returned (.tuple #[.int .u32 (isV t (kw pc) pc),.bool (zlH t (kw pc) pc)])/\Below w.heap.size w w':=by
 have hk:kw pc<8:=by unfold kw;omega
 have he:Hid ((kw pc:Int)=pc/4%8):=by show _=_;unfold kw;omega
 exact zfs (tcs t) pc p0 p1 _ _ _ _ _ _ (ht.A _ hk).1 (ht.A _ hk).2 (ht.S _ hk).1 (ht.S _ hk).2 (kw pc) hk he rfl rfl (znk t _ hk) (znl t _ hk) (znm t _ hk) (znn t _ hk) w
theorem zk{w:World}{b:Nat}{o:Obj}(h:w.heap[b]?=some o):b<w.heap.size:=(Ai.1 h).1
theorem heap_alloc_new(w:World)(o:Obj):(w.alloc o).heap[w.heap.size]?=some o:=by
 show(w.heap.push o)[w.heap.size]?=some o
 simp
theorem zb{P:Program}{ops:Array Oper}{S:World->Prop}{op:Oper}{a:Act}(hw:Aq op (yielded ops a.tmps)=true)(ty:TypeId)(x:Operand)(ho:op.op=.load ty x)
  (g:Nat) (hx:a.eval x=.pointer (some ⟨g,0,none⟩)) (t:TypeId) (cs:Array Value) (fr:Nat×Nat) (d:TypeDesc) (hS:∀w,S w->w.heap[g]?=some (.cells cs t fr))
  (hu:P.underlying ty=some d) (hd:(match d with|.struct _|.array _ _=>true|_=>false)=true) (hi:(P.info? ty).map (·.size)=some cs.size):YieldsIf P ops S op (.agg cs) a:=
 .inl ⟨hw,fun w hw'=>by
  unfold execOp
  simp only[ho,hx,Instr.loadAt,Instr.sureAddr,Ar,WY,An,Ao w g t ty cs fr d (hS w hw') hu hd hi]⟩
theorem qS{P:Program}{ops:Array Oper}{rest:List Oper}{o:Oper}{a:Act}{W:World}{Q:Exit->Act->World->Prop}(hgd:o.guard=none)(ty:TypeId)(x y:Operand)(ho:o.op=.store ty x y)
  (cells:Array Value) (t:TypeId) (old:Array Value) (hx:a.eval x=.pointer (some ⟨W.heap.size,0,none⟩)) (hy:a.eval y=.agg cells)
  (hi:(P.info? ty).map (·.size)=some cells.size) (hold:old.size=cells.size) (h1:cells.all (·.oneCell')=true)
  (h:∀V:World,V.heap[W.heap.size]?=some (.cells cells t (0,0))->Below W.heap.size W V->wpList P ops Q rest (a.put o.dst undef) V):wpList P ops Q (o::rest) a (W.alloc (.cells old t (0,0))):=
 Af hgd ty x y ho W.heap.size cells hx hy t old (heap_alloc_new _ _) hi hold h1 (h _ (Aj _ _ _ _ _ _ (heap_alloc_new _ _)) (zc ((Ab _ _).alloc (Aa _) _) (Aa _) _))
end Go.Proofs.YtpiohehijkpghacGreatDoor.Gu
namespace Go.Proofs.YtpiohehijkpghacGreatDoor.Co
open Go.RowKit
open Hy
open Wi Od Re.Hy
open Gu.Hy (Tb tcs)
def dcdM(x:Int):Option In:=if 0<=x/\x<=4294967295 then dcdW x else none
def brM(t:Tb)(pc:Int):Bool×Int:=(Gu.znQ t (Gu.kb pc),t.G (Gu.kb pc))
def vaM(t:Tb)(pc:Int):Int×Bool:=(Gu.isV t (Gu.kw pc) pc,Gu.zlH t (Gu.kw pc) pc)
def lbM(t:Tb)(pc:Int)(tk:Bool)(g:Int):Tb:=Gu.zdh t (Gu.kb pc) tk g
def lvM(t:Tb)(pc v:Int):Tb:=Gu.zdi t (Gu.kw pc) pc v
def mach:Mc:=⟨dcdM,doW,brM,vaM,lbM,lvM⟩
theorem zhn(X:Int):∀k m,dcdN X k=some m->1<=m/\m<=k
 |0,m,h=>by cases h
 |k+1,m,h=>by
  unfold dcdN at h
  cases e:dcdN X k with
  |some j=>
   rw[e]at h
   simp only[Option.some.injEq]at h
   subst h
   have:=zhn X k _ e
   omega
  |none=>
   rw[e]at h
   simp only[]at h
   split at h
   ·simp only[Option.some.injEq]at h;omega
   ·cases h
theorem fm1s:∀m,m<49->((16<=m/\m<=18)\/47<=m)->fm (kn m) 1=0:=by decide
theorem zca{x:Int}{i:In}(h:dcdM x=some i):0<=x/\x<=4294967295/\∃m,dcdN x 48=some m/\1<=m/\m<=48/\i=⟨m,(rrg x 128 (fm (kn m) 1)).toNat,(rrg x 32768 (fm (kn m) 2)).toNat,(rrg x 1048576 (fm (kn m) 3)).toNat,rim (fm (kn m)) x⟩:=by
 unfold dcdM at h
 split at h
 ·rename_i hx
  unfold dcdW at h
  cases e:dcdN x 48 with
  |none=>rw[e]at h;cases h
  |some m=>
   rw[e]at h
   simp only[Option.some.injEq]at h
   have:=zhn x 48 m e
   exact⟨hx.1,hx.2,m,rfl,this.1,this.2,h.symm⟩
 ·cases h
theorem vG{x:Int}{i:In}(h:dcdM x=some i):InOk i:=by
 obtain⟨x0,x1,m,hm,m0,m1,rfl⟩:=zca h
 have h1:=zkp m (by omega) x x0 x1
 have h2:=zhj m (by omega) x x0 x1
 have h3:=zhk m (by omega) x x0 x1
 have h4:=zlF m m0 m1 x x0 x1
 exact⟨by show Int.toNat _<32;omega,by show Int.toNat _<32;omega,by show Int.toNat _<32;omega,h4.1,h4.2,by show(1:Int)<=m;omega,by show(m:Int)<=48;omega⟩
theorem zho{x:Int}{i:In}(h:dcdM x=some i)(ho:(5<=i.op/\i.op<=10)\/(16<=i.op/\i.op<=18)\/47<=i.op):i.rd=0:=by
 obtain⟨x0,x1,m,hm,m0,m1,rfl⟩:=zca h
 simp only[]at ho⊢
 rcases ho with ho|ho|ho
 ·rw[zhl m (by omega) (by omega) x x0 x1];rfl
 ·rw[fm1s m (by omega) (by omega),zeo x x0 (by omega)];rfl
 ·rw[fm1s m (by omega) (by omega),zeo x x0 (by omega)];rfl
theorem zep{op:Int}(h:16<=op/\op<=18):(stn op=1\/stn op=2\/stn op=4):=by
 rcases(by omega:op=16\/op=17\/op=18)with rfl|rfl|rfl<;>simp[stn]
theorem xf(i:In)(pc a b:Int)(n:Nat):(16<=i.op/\i.op<=18/\fits n (place i a) (stn i.op)=true/\doW i pc a b n=⟨pc,(pc+4)%4294967296,0,0,0,0,place i a,stn i.op,b%p256 (stn i.op).toNat,false,0⟩)\/(16<=i.op/\i.op<=18/\doW i pc a b n=qj pc 4)\/(i.op=46/\doW i pc a b n=onC pc 0 0)\/
  (i.op=47/\(doW i pc a b n=⟨pc,pc,1,0,0,0,0,0,0,false,0⟩\/doW i pc a b n=⟨pc,(pc+4)%4294967296,0,0,0,0,0,0,0,true,b⟩\/doW i pc a b n=qj pc 5))\/(i.op=48/\doW i pc a b n=qj pc 6)\/(¬(16<=i.op/\i.op<=18)/\i.op≠46/\i.op≠47/\i.op≠48/\doW i pc a b n=ziK pc (nxW i pc a b) i.rd (rkW i pc a b)):=by
 unfold doW
 by_cases h1:sts i=true
 ·rw[if_pos h1]
  have h1':16<=i.op/\i.op<=18:=by simpa[sts]using h1
  by_cases h2:fits n (place i a) (stn i.op)=true
  ·rw[if_pos h2];exact .inl ⟨h1'.1,h1'.2,h2,rfl⟩
  ·rw[if_neg h2];exact .inr (.inl ⟨h1'.1,h1'.2,rfl⟩)
 ·have h1':¬(16<=i.op/\i.op<=18):=by simpa[sts]using h1
  rw[if_neg h1]
  by_cases h2:i.op=46
  ·rw[if_pos h2];exact .inr (.inr (.inl ⟨h2,rfl⟩))
  rw[if_neg h2]
  by_cases h3:i.op=47
  ·rw[if_pos h3]
   refine .inr (.inr (.inr (.inl ⟨h3,?_⟩)))
   by_cases h4:a=0
   ·rw[if_pos h4];exact .inl rfl
   ·rw[if_neg h4]
    by_cases h5:a=1
    ·rw[if_pos h5];exact .inr (.inl rfl)
    ·rw[if_neg h5];exact .inr (.inr rfl)
  rw[if_neg h3]
  by_cases h4:i.op=48
  ·rw[if_pos h4];exact .inr (.inr (.inr (.inr (.inl ⟨h4,rfl⟩))))
  ·rw[if_neg h4];exact .inr (.inr (.inr (.inr (.inr ⟨h1',h2,h3,h4,rfl⟩))))
theorem vH{i:In}(h:i.op<4\/10<i.op):trn i=false:=by unfold trn;exact decide_eq_false (by omega)
theorem zdj{i:In}(h:i.op≠46):gvs i=i.rd:=if_neg h
theorem zM:MOk mach:=by
 refine⟨fun{x i} h=>?_,fun{x i} pc a b n h hl hs=>?_,fun{x i} pc a b n h hl hs=>?_,fun{x i} pc a b n h hl=>?_⟩
 ·have:=vG h
  exact⟨this.lr,this.l1,this.l2,this.o0,this.o1⟩
 ·show(doW i pc a b n).next=pc/\(doW i pc a b n).rd=0/\i.op≠3/\trn i=false/\(doW i pc a b n).many=0
  have hs':(doW i pc a b n).st≠0:=hs
  rcases xf i pc a b n with⟨h1,h2,h3,e⟩|⟨h1,h2,e⟩|⟨h1,e⟩|⟨h1,e|e|e⟩|⟨h1,e⟩|⟨h1,h2,h3,h4,e⟩<;>rw[e]at hs'⊢
  ·exact absurd rfl hs'
  ·exact⟨rfl,rfl,by omega,vH (by omega),rfl⟩
  ·exact absurd rfl hs'
  ·exact⟨rfl,rfl,by omega,vH (by omega),rfl⟩
  ·exact absurd rfl hs'
  ·exact⟨rfl,rfl,by omega,vH (by omega),rfl⟩
  ·exact⟨rfl,rfl,by omega,vH (by omega),rfl⟩
  ·exact absurd rfl hs'
 ·show(doW i pc a b n).rd=gvs i
  have hs':(doW i pc a b n).st=0:=hs
  rcases xf i pc a b n with⟨h1,h2,h3,e⟩|⟨h1,h2,e⟩|⟨h1,e⟩|⟨h1,e|e|e⟩|⟨h1,e⟩|⟨h1,h2,h3,h4,e⟩<;>rw[e]at hs'⊢
  ·rw[zdj (by omega),zho h (by omega)]
  ·exact absurd (show(2:Int)=0 from hs') (by decide)
  ·unfold gvs;rw[if_pos h1];rfl
  ·exact absurd (show(1:Int)=0 from hs') (by decide)
  ·rw[zdj (by omega),zho h (by omega)]
  ·exact absurd (show(2:Int)=0 from hs') (by decide)
  ·exact absurd (show(2:Int)=0 from hs') (by decide)
  ·rw[zdj (by omega)];rfl
 ·show(doW i pc a b n).many=0\/(sts i=true/\((doW i pc a b n).many=1\/(doW i pc a b n).many=2\/(doW i pc a b n).many=4)/\0<=(doW i pc a b n).pl/\(doW i pc a b n).pl+(doW i pc a b n).many<=n)
  rcases xf i pc a b n with⟨h1,h2,h3,e⟩|⟨h1,h2,e⟩|⟨h1,e⟩|⟨h1,e|e|e⟩|⟨h1,e⟩|⟨h1,h2,h3,h4,e⟩<;>rw[e]
  ·refine .inr ⟨by unfold sts;exact decide_eq_true ⟨h1,h2⟩,zep ⟨h1,h2⟩,(jw h3).1,(jw h3).2.2⟩
  all_goals exact .inl rfl
def U32(x:Int):Prop:=0<=x/\x<=4294967295
structure CmR(c:Cm):Prop where
 pc:U32 c.pc
 next:U32 c.next
 st:0<=c.st/\c.st<=2
 ca:0<=c.ca/\c.ca<=6
 rd:c.rd<32
 val:U32 c.val
 pl:U32 c.pl
 many:c.many=0\/c.many=1\/c.many=2\/c.many=4
 data:U32 c.data
 told:U32 c.told
theorem u0:U32 0:=⟨by omega,by omega⟩
theorem s02:(0:Int)<=0/\(0:Int)<=2:=by omega
theorem s12:(0:Int)<=1/\(1:Int)<=2:=by omega
theorem s22:(0:Int)<=2/\(2:Int)<=2:=by omega
theorem s06:(0:Int)<=0/\(0:Int)<=6:=by omega
theorem z32:0<32:=by decide
theorem umod(x:Int):U32 (x%4294967296):=⟨by omega,by omega⟩
theorem zpm:CmR zcm:=⟨u0,u0,s02,s06,z32,u0,u0,.inl rfl,u0,u0⟩
theorem jy{pc k:Int}(h:U32 pc)(hk:0<=k/\k<=6):CmR (qj pc k):=⟨h,h,s22,hk,z32,u0,u0,.inl rfl,u0,u0⟩
theorem zeq{pc v:Int}{rd:Nat}(h:U32 pc)(hr:rd<32)(hv:U32 v):CmR (onC pc rd v):=
 ⟨h,umod _,s02,s06,hr,by show U32 (if rd=0 then 0 else v);split;exact u0;exact hv,u0,.inl rfl,u0,u0⟩
theorem zjr{pc nx v:Int}{rd:Nat}(h:U32 pc)(hn:U32 nx)(hr:rd<32)(hv:U32 v):CmR (ziK pc nx rd v):=
 ⟨h,hn,s02,s06,hr,by show U32 (if rd=0 then 0 else v);split;exact u0;exact hv,u0,.inl rfl,u0,u0⟩
theorem zlI(i:In)(pc a b:Int):U32 (nxW i pc a b):=by
 unfold nxW U32
 split
 ·omega
 ·split
  ·omega
  ·split<;>omega
theorem zlJ(i:In)(pc a b:Int)(ha:U32 a)(hb:U32 b):U32 (rkW i pc a b):=by
 unfold rkW
 split
 ·exact umod _
 ·split
  ·exact umod _
  ·split
   ·exact umod _
   ·split
    ·exact zbC _ _ _ ha.1 ha.2 (umod _).1 (umod _).2
    ·exact zbC _ _ _ ha.1 ha.2 hb.1 hb.2
theorem zkq{i:In}(hi:InOk i){pc a b:Int}{n:Nat}(hp:U32 pc)(ha:U32 a)(hb:U32 b):CmR (doW i pc a b n):=by
 rcases xf i pc a b n with⟨h1,h2,h3,e⟩|⟨h1,h2,e⟩|⟨h1,e⟩|⟨h1,e|e|e⟩|⟨h1,e⟩|⟨h1,h2,h3,h4,e⟩<;>rw[e]
 ·refine⟨hp,umod _,s02,s06,z32,u0,umod _,.inr (zep ⟨h1,h2⟩),?_,u0⟩
  show U32 (b%p256 (stn i.op).toNat)
  unfold U32
  have hb':=hb
  unfold U32 at hb'
  rcases zep ⟨h1,h2⟩with e|e|e<;>rw[e]<;>simp[p256]<;>omega
 ·exact jy hp ⟨by decide,by decide⟩
 ·exact zeq hp (by decide) u0
 ·exact⟨hp,hp,s12,s06,z32,u0,u0,.inl rfl,u0,u0⟩
 ·exact⟨hp,umod _,s02,s06,z32,u0,u0,.inl rfl,u0,hb⟩
 ·exact jy hp ⟨by decide,by decide⟩
 ·exact jy hp ⟨by decide,by decide⟩
 ·exact zjr hp (zlI _ _ _ _) hi.lr (zlJ _ _ _ _ ha hb)
theorem znR{t:Tb}(ht:Gu.TbOk t)(pc:Int)(hp:U32 pc):U32 (brM t pc).2:=ht.G _ (by unfold Gu.kb U32 at*;omega)
theorem znS{t:Tb}(ht:Gu.TbOk t)(pc:Int):U32 (vaM t pc).1:=by
 show U32 (Gu.isV t (Gu.kw pc) pc)
 unfold Gu.isV
 split
 ·exact umod _
 ·exact u0
theorem zer{f:Nat->Int}{n k:Nat}{v:Int}(h:∀i,i<n->0<=f i/\f i<=4294967295)(hv:U32 v):∀i,i<n->0<=Gu.Hy.up f k v i/\Gu.Hy.up f k v i<=4294967295:=fun i hi=>by
 unfold Gu.Hy.up
 split
 ·exact hv
 ·exact h i hi
theorem zpn{t:Tb}(ht:Gu.TbOk t)(pc:Int)(tk:Bool){g:Int}(hg:U32 g):Gu.TbOk (lbM t pc tk g):=by
 unfold lbM Gu.zdh
 cases tk with
 |true=>exact⟨zer ht.G hg,ht.P,ht.A,ht.S⟩
 |false=>exact⟨ht.G,ht.P,ht.A,ht.S⟩
end Go.Proofs.YtpiohehijkpghacGreatDoor.Co
namespace Go.Proofs.YtpiohehijkpghacGreatDoor.Od
open Go.Proofs.YtpiohehijkpghacGreatDoor.Wi
open Go.RowKit
open Hy
theorem qZ:(prog.info? 135).map (·.size)=some 7:=by kernel_rfl
theorem zk{w:World}{b:Nat}{o:Obj}(h:w.heap[b]?=some o):b<w.heap.size:=(Ai.1 h).1
theorem zc{B:Nat}{a w:World}(h:Below B a w){g:Nat}(hg:B<=g)(cs:Array Value):Below B a (w.setRow g cs):=
 ⟨h.os,h.tape,h.output,by simpa using h.size,fun k hk=>(setRow_other _ _ _ _ (by omega)).trans (h.block k hk)⟩
theorem zj{Φ:World->Prop}{w:World}{A:Obj}(h:∀W:World,W.heap[w.heap.size]?=some A->Below w.heap.size w W->Φ W):Φ (w.alloc A):=
 h _ (heap_alloc_new _ _) ((Ab _ _).alloc (Aa _) _)
theorem jl{Φ:World->Prop}{w:World}{A B:Obj}(h:∀W:World,W.heap[w.heap.size]?=some A->W.heap[w.heap.size+1]?=some B->Below w.heap.size w W->w.heap.size+2<=W.heap.size->Φ W):Φ ((w.alloc A).alloc B):=
 h _ (Ah _ _ _) (Ad _ _ _) (((Ab _ _).alloc (Aa _) _).alloc (by simp) _) (by simp)
theorem zb{P:Program}{ops:Array Oper}{S:World->Prop}{op:Oper}{a:Act}(hw:Aq op (yielded ops a.tmps)=true)(ty:TypeId)(x:Operand)(ho:op.op=.load ty x)
  (g:Nat) (hx:a.eval x=.pointer (some ⟨g,0,none⟩)) (t:TypeId) (cs:Array Value) (fr:Nat×Nat) (d:TypeDesc) (hS:∀w,S w->w.heap[g]?=some (.cells cs t fr))
  (hu:P.underlying ty=some d) (hd:(match d with|.struct _|.array _ _=>true|_=>false)=true) (hi:(P.info? ty).map (·.size)=some cs.size):YieldsIf P ops S op (.agg cs) a:=
 .inl ⟨hw,fun w hw'=>by
  unfold execOp
  simp only[ho,hx,Instr.loadAt,Instr.sureAddr,Ar,WY,An,Ao w g t ty cs fr d (hS w hw') hu hd hi]⟩
theorem qS{P:Program}{ops:Array Oper}{rest:List Oper}{o:Oper}{a:Act}{W:World}{Q:Exit->Act->World->Prop}(hgd:o.guard=none)(ty:TypeId)(x y:Operand)(ho:o.op=.store ty x y)
  (cells:Array Value) (t:TypeId) (old:Array Value) (hx:a.eval x=.pointer (some ⟨W.heap.size,0,none⟩)) (hy:a.eval y=.agg cells)
  (hi:(P.info? ty).map (·.size)=some cells.size) (hold:old.size=cells.size) (h1:cells.all (·.oneCell')=true)
  (h:∀V:World,V.heap[W.heap.size]?=some (.cells cells t (0,0))->Below W.heap.size W V->wpList P ops Q rest (a.put o.dst undef) V):wpList P ops Q (o::rest) a (W.alloc (.cells old t (0,0))):=
 Af hgd ty x y ho W.heap.size cells hx hy t old (heap_alloc_new _ _) hi hold h1 (h _ (Aj _ _ _ _ _ _ (heap_alloc_new _ _)) (zc ((Ab _ _).alloc (Aa _) _) (Aa _) _))
def Box(w:World)(b:Nat)(p:Ac):Prop:=w.heap[b]?=some (.cells #[.int .i64 p.seq,.bool p.st,.bool p.kn,.int .u32 p.pl,.int .i64 p.many,.int .u32 p.data,.bool p.done] 135 (0,0))
theorem Box.below{w w':World}{b B:Nat}{p:Ac}(h:Box w b p)(hB:w.heap.size<=B)(hb:Below B w w'):Box w' b p:=(hb.block b (Nat.lt_of_lt_of_le (zk h) hB)).trans h
theorem Box.cell{w:World}{b:Nat}{p:Ac}(h:Box w b p){j:Nat}{u:Value}(hj:(cel p)[j]?=some u):w.cell? ⟨b,j,none⟩=some u:=(Ak _ _ _ _ _ _ h).trans (by simpa[cel]using hj)
theorem zav(p:Ac)(w:World):Calls prog 185 #[acv p] w fun e w'=>e=.returned (.int .u64 (wd p))/\Below w.heap.size w w':=by
 obtain⟨s,t,k,x,m,d,o⟩:=p
 rcases(by omega:m<0\/(0<=m/\m<=4)\/4<m)with h|h|h
 ·have HV:Hid (wd ⟨s,t,k,x,m,d,o⟩=0):=by show wd _=_;simp[wd,h]
  go_enter func185,ntmps185
  go_wp2
  go_ret
  exact⟨zX (by have:=HV.out;omega),(Ab _ _).alloc (Aa _) _⟩
 ·have HV:Hid (wd ⟨s,t,k,x,m,d,o⟩=m):=by show wd _=_;simp[wd];omega
  go_enter func185,ntmps185
  go_wp2
  go_ret
  exact⟨zX (by have:=HV.out;omega),(Ab _ _).alloc (Aa _) _⟩
 ·have HV:Hid (wd ⟨s,t,k,x,m,d,o⟩=4):=by show wd _=_;simp[wd];omega
  go_enter func185,ntmps185
  go_wp2
  go_ret
  exact⟨zX (by have:=HV.out;omega),(Ab _ _).alloc (Aa _) _⟩
theorem zaw(p:Ac)(seq:Int)(w:World):Calls prog 123 #[acv p,.int .i64 seq] w fun e w'=>e=.returned (.bool (ahd seq p))/\Below w.heap.size w w':=by
 obtain⟨s,t,k,x,m,d,o⟩:=p
 go_enter func123,ntmps123
 go_wp2
 all_goals(go_ret;refine⟨?_,(Ab _ _).alloc (Aa _) _⟩;simp_all[ahd])
theorem zhp(p:Ac)(seq:Int)(w:World):Calls prog 187 #[acv p,.int .i64 seq] w fun e w'=>e=.returned (.bool (ovr seq p))/\Below w.heap.size w w':=by
 obtain⟨s,t,k,x,m,d,o⟩:=p
 go_enter func187,ntmps187
 go_wp2
 all_goals(go_ret;refine⟨?_,(Ab _ _).alloc (Aa _) _⟩;simp_all[ovr])
def ldo(many:Int):Int:=if many=1 then 14 else if many=2 then 15 else if many=4 then 13 else 0
theorem zcb(many:Int)(w:World):Calls prog 119 #[.int .i64 many] w fun e w'=>e=.returned (.int .i64 (ldo many))/\w'=w:=by
 go_enter func119,ntmps119
 go_wp2
 all_goals(go_ret;refine⟨?_,rfl⟩;simp_all[ldo])
theorem zes(p:Ac)(ho:p.Ok)(x:Int)(x0:0<=x)(x1:x<=18446744073709551615)(w:World):Calls prog 155 #[acv p,.int .u64 x] w fun e w'=>e=.returned (.bool (hs p x))/\Below w.heap.size w w':=by
 have C:=fun w=>zav p w
 have hr:=zd1 p
 obtain⟨D,hD⟩:∃D,D=wd p:=⟨_,rfl⟩
 have HV:Hid (hs p x=decide (p.pl<=x/\x<p.pl+D)):=by rw[hD];rfl
 rw[<-hD]at C hr
 clear hD
 obtain⟨h1,h2,_,_,_,_⟩:=ho
 obtain⟨s,t,k,y,m,d,o⟩:=p
 simp only at h1 h2 HV
 by_cases hle:y<=x
 ·go_enter func155,ntmps155
  go_wp2_with fail
  refine(C _).mono ?_
  rintro e w' ⟨rfl,hb⟩
  have HB:Hid (Below w.heap.size w w'):=((Ab _ w).alloc (Aa _) _).trans (hb.mono (by simp))
  clear C hb
  go_wp2_with fail
  go_ret
  exact⟨by rw[HV.out];simp[hle],HB.out⟩
 ·go_enter func155,ntmps155
  go_wp2_with fail
  go_ret
  exact⟨by rw[HV.out];simp;omega,(Ab _ _).alloc (Aa _) _⟩
end Go.Proofs.YtpiohehijkpghacGreatDoor.Od
