/- What the program's small functions of chapter 4 come to. -/
import Derived.Deep.DeepMust
import Derived.OpenShut
import Derived.Deep.WholeRow
import Derived.Laws.Rows
import Derived.Laws.Tables
import Derived.Laws.DeepBits32
import Derived.Test.YtpiohehijkpghabGreatDoorS01
import Derived.Test.YtpiohehijkpghabGreatDoorS03
import Derived.Test.YtpiohehijkpghabGreatDoorS02
set_option maxRecDepth 20000
set_option maxHeartbeats 1000000
set_option linter.unusedVariables false
open Go.Proofs.Tryz
namespace Go.Proofs.YtpiohehijkpghabGreatDoor
open Go.RowKit
open Hy
abbrev hcs(R:Nat->Int)(pc st ca:Int):Array Value:=#[.int .u32 (R 0),.int .u32 (R 1),.int .u32 (R 2),.int .u32 (R 3),.int .u32 (R 4),.int .u32 (R 5),.int .u32 (R 6),.int .u32 (R 7),.int .u32 (R 8),.int .u32 (R 9),.int .u32 (R 10),.int .u32 (R 11),.int .u32 (R 12),.int .u32 (R 13),.int .u32 (R 14),.int .u32 (R 15),.int .u32 (R 16),.int .u32 (R 17),.int .u32 (R 18),.int .u32 (R 19),.int .u32 (R 20),.int .u32 (R 21),.int .u32 (R 22),.int .u32 (R 23),.int .u32 (R 24),.int .u32 (R 25),.int .u32 (R 26),.int .u32 (R 27),.int .u32 (R 28),.int .u32 (R 29),.int .u32 (R 30),.int .u32 (R 31),.int .u32 pc,.int .i64 st,.int .i64 ca]
abbrev hv(R:Nat->Int)(pc st ca:Int):Value:=.agg (hcs R pc st ca)
def may(R:Nat->Int)(st ca:Int):Bool:=R 0==0&&(((st==0||st==1)&&ca==0)||(st==2&&decide (1<=ca)&&decide (ca<=6)))
abbrev ccs(pc next st ca rd val at_ many data:Int)(out:Bool)(told:Int):Array Value:=#[.int .u32 pc,.int .u32 next,.int .i64 st,.int .i64 ca,.int .i64 rd,.int .u32 val,.int .u32 at_,.int .i64 many,.int .u32 data,.bool out,.int .u32 told]
abbrev cv(pc next st ca rd val at_ many data:Int)(out:Bool)(told:Int):Value:=.agg (ccs pc next st ca rd val at_ many data out told)
theorem zjb:(prog.info? 66).map (·.size)=some 47:=by kernel_rfl
theorem qE:(prog.info? 27).map (·.size)=some 35:=by kernel_rfl
theorem za:(prog.info? 64).map (·.size)=some 11:=by kernel_rfl
theorem jq{P:Program}{ops:Array Oper}{rest:List Oper}{o:Oper}{a:Act}{w:World}{Q:Exit->Act->World->Prop}(hg:o.guard=none)(t:TypeId)(parts:Array (Nat×Operand))(ho:o.op=.build t parts)(cells:Array Value)
  (hb:P.built t (parts.map fun(i,x)=>(i,a.eval x)).toList=some cells)
  (h:wpList P ops Q rest (a.put o.dst (.agg cells)) w):wpList P ops Q (o::rest) a w:=
 wpList_build hg t parts ho (by rw[hb];rfl) (by rw[hb];exact h)
theorem qf{P:Program}{ops:Array Oper}{rest:List Oper}{o:Oper}{a:Act}{w:World}{Q:Exit->Act->World->Prop}(hg:o.guard=none)(t:TypeId)(i0 i1 i2:Nat)(x0 x1 x2:Operand)(ho:o.op=.build t #[(i0,x0),(i1,x1),(i2,x2)])
  (v0 v1 v2:Value) (e0:a.eval x0=v0) (e1:a.eval x1=v1) (e2:a.eval x2=v2) (cells:Array Value)
  (hb:P.built t [(i0,v0),(i1,v1),(i2,v2)]=some cells)
  (h:wpList P ops Q rest (a.put o.dst (.agg cells)) w):wpList P ops Q (o::rest) a w:=
 jq hg t _ ho cells (by simp[e0,e1,e2,hb]) h
theorem zfb(c0 c1 c2 c3 c4 c5 c6 c7 c8 c9 c10 h0 h1 h2 h3 h4 h5 h6 h7 h8 h9 h10 h11 h12 h13 h14 h15 h16 h17 h18 h19 h20 h21 h22 h23 h24 h25 h26 h27 h28 h29 h30 h31 h32 h33 h34:Value)(p:Option Addr)(n c:Nat):prog.built 66 [(0,.agg #[c0,c1,c2,c3,c4,c5,c6,c7,c8,c9,c10]),(1,.agg #[h0,h1,h2,h3,h4,h5,h6,h7,h8,h9,h10,h11,h12,h13,h14,h15,h16,h17,h18,h19,h20,h21,h22,h23,h24,h25,h26,h27,h28,h29,h30,h31,h32,h33,h34]),(2,.slice p n c)]=some (#[c0,c1,c2,c3,c4,c5,c6,c7,c8,c9,c10]++#[h0,h1,h2,h3,h4,h5,h6,h7,h8,h9,h10,h11,h12,h13,h14,h15,h16,h17,h18,h19,h20,h21,h22,h23,h24,h25,h26,h27,h28,h29,h30,h31,h32,h33,h34]++#[.slice p n c]):=by kernel_rfl
theorem zgH{α:Type}{cs:Array α}(h:cs.size=11):∃c0 c1 c2 c3 c4 c5 c6 c7 c8 c9 c10,cs=#[c0,c1,c2,c3,c4,c5,c6,c7,c8,c9,c10]:=by
 obtain⟨l⟩:=cs
 match l,h with
 |[c0,c1,c2,c3,c4,c5,c6,c7,c8,c9,c10],_=>exact⟨c0,c1,c2,c3,c4,c5,c6,c7,c8,c9,c10,rfl⟩
theorem zj{α:Type}{l:List α}{n:Nat}(h:l.length=n+1):∃x t,l=x::t/\t.length=n:=by
 cases l with
 |nil=>simp at h
 |cons x t=>exact⟨x,t,rfl,by simpa using h⟩
theorem zlq{α:Type}{cs:Array α}(h:cs.size=35):∃h0 h1 h2 h3 h4 h5 h6 h7 h8 h9 h10 h11 h12 h13 h14 h15 h16 h17 h18 h19 h20 h21 h22 h23 h24 h25 h26 h27 h28 h29 h30 h31 h32 h33 h34,cs=#[h0,h1,h2,h3,h4,h5,h6,h7,h8,h9,h10,h11,h12,h13,h14,h15,h16,h17,h18,h19,h20,h21,h22,h23,h24,h25,h26,h27,h28,h29,h30,h31,h32,h33,h34]:=by
 obtain⟨l⟩:=cs
 replace h:l.length=35:=by simpa using h
 obtain⟨h0,l0,rfl,g0⟩:=zj h
 obtain⟨h1,l1,rfl,g1⟩:=zj g0
 obtain⟨h2,l2,rfl,g2⟩:=zj g1
 obtain⟨h3,l3,rfl,g3⟩:=zj g2
 obtain⟨h4,l4,rfl,g4⟩:=zj g3
 obtain⟨h5,l5,rfl,g5⟩:=zj g4
 obtain⟨h6,l6,rfl,g6⟩:=zj g5
 obtain⟨h7,l7,rfl,g7⟩:=zj g6
 obtain⟨h8,l8,rfl,g8⟩:=zj g7
 obtain⟨h9,l9,rfl,g9⟩:=zj g8
 obtain⟨h10,l10,rfl,g10⟩:=zj g9
 obtain⟨h11,l11,rfl,g11⟩:=zj g10
 obtain⟨h12,l12,rfl,g12⟩:=zj g11
 obtain⟨h13,l13,rfl,g13⟩:=zj g12
 obtain⟨h14,l14,rfl,g14⟩:=zj g13
 obtain⟨h15,l15,rfl,g15⟩:=zj g14
 obtain⟨h16,l16,rfl,g16⟩:=zj g15
 obtain⟨h17,l17,rfl,g17⟩:=zj g16
 obtain⟨h18,l18,rfl,g18⟩:=zj g17
 obtain⟨h19,l19,rfl,g19⟩:=zj g18
 obtain⟨h20,l20,rfl,g20⟩:=zj g19
 obtain⟨h21,l21,rfl,g21⟩:=zj g20
 obtain⟨h22,l22,rfl,g22⟩:=zj g21
 obtain⟨h23,l23,rfl,g23⟩:=zj g22
 obtain⟨h24,l24,rfl,g24⟩:=zj g23
 obtain⟨h25,l25,rfl,g25⟩:=zj g24
 obtain⟨h26,l26,rfl,g26⟩:=zj g25
 obtain⟨h27,l27,rfl,g27⟩:=zj g26
 obtain⟨h28,l28,rfl,g28⟩:=zj g27
 obtain⟨h29,l29,rfl,g29⟩:=zj g28
 obtain⟨h30,l30,rfl,g30⟩:=zj g29
 obtain⟨h31,l31,rfl,g31⟩:=zj g30
 obtain⟨h32,l32,rfl,g32⟩:=zj g31
 obtain⟨h33,l33,rfl,g33⟩:=zj g32
 obtain⟨h34,l34,rfl,g34⟩:=zj g33
 obtain rfl:l34=[]:=List.length_eq_zero_iff.1 g34
 exact⟨h0,h1,h2,h3,h4,h5,h6,h7,h8,h9,h10,h11,h12,h13,h14,h15,h16,h17,h18,h19,h20,h21,h22,h23,h24,h25,h26,h27,h28,h29,h30,h31,h32,h33,h34,rfl⟩
theorem zgI(C H:Array Value)(p:Option Addr)(n c:Nat)(hC:C.size=11)(hH:H.size=35):prog.built 66 [(0,.agg C),(1,.agg H),(2,.slice p n c)]=some (C++H++#[.slice p n c]):=by
 obtain⟨c0,c1,c2,c3,c4,c5,c6,c7,c8,c9,c10,rfl⟩:=zgH hC
 obtain⟨h0,h1,h2,h3,h4,h5,h6,h7,h8,h9,h10,h11,h12,h13,h14,h15,h16,h17,h18,h19,h20,h21,h22,h23,h24,h25,h26,h27,h28,h29,h30,h31,h32,h33,h34,rfl⟩:=zlq hH
 exact zfb c0 c1 c2 c3 c4 c5 c6 c7 c8 c9 c10 h0 h1 h2 h3 h4 h5 h6 h7 h8 h9 h10 h11 h12 h13 h14 h15 h16 h17 h18 h19 h20 h21 h22 h23 h24 h25 h26 h27 h28 h29 h30 h31 h32 h33 h34 p n c
def Ones(H:Array Value):Prop:=H.all (·.oneCell')=true
theorem Ones.set{H:Array Value}(h:Ones H)(i:Nat)(v:Value)(hv:v.oneCell'=true):Ones (H.setIfInBounds i v):=by
 unfold Ones at*
 rw[Array.all_eq_true_iff_forall_mem]at*
 intro x hx
 obtain⟨j,hj,e⟩:=Array.getElem_of_mem hx
 have hj':j<H.size:=by simpa using hj
 rw[Array.getElem_setIfInBounds hj']at e
 split at e
 ·rw[<-e];exact hv
 ·rw[<-e];exact h _ (Array.getElem_mem hj')
theorem Ones.app{A B:Array Value}(ha:Ones A)(hb:Ones B):Ones (A++B):=by
 unfold Ones at*
 rw[Array.all_append,ha,hb];rfl
theorem zh{B:Nat}{a w:World}(h:Below B a w){g:Nat}(hg:B<=g)(cs:Array Value):Below B a (w.setRow g cs):=
 ⟨h.os,h.tape,h.output,by simpa using h.size,fun k hk=>(setRow_other _ _ _ _ (by omega)).trans (h.block k hk)⟩
theorem qZ(pc next st ca rd val at_ many data:Int)(out:Bool)(told:Int):Ones (ccs pc next st ca rd val at_ many data out told):=by unfold Ones;simp[Value.oneCell']
theorem zfc(p:Option Addr)(n c:Nat):Ones #[.slice p n c]:=by unfold Ones;simp[Value.oneCell']
structure Did(D C H:Array Value)(p:Option Addr)(n c:Nat):Prop where
 is:D=C++H++#[.slice p n c]
 hC:C.size=11
 hH:H.size=35
 oC:Ones C
 oH:Ones H
theorem Did.size{D C H:Array Value}{p:Option Addr}{n c:Nat}(h:Did D C H p n c):D.size=47:=by rw[h.is];simp[h.hC,h.hH]
theorem Did.info{D C H:Array Value}{p:Option Addr}{n c:Nat}(h:Did D C H p n c):(prog.info? 66).map (·.size)=some D.size:=by rw[zjb,h.size]
theorem Did.ones{D C H:Array Value}{p:Option Addr}{n c:Nat}(h:Did D C H p n c):Ones D:=by rw[h.is];exact(h.oC.app h.oH).app (zfc p n c)
theorem Did.built{D C H:Array Value}{p:Option Addr}{n c:Nat}(h:Did D C H p n c):prog.built 66 [(0,.agg C),(1,.agg H),(2,.slice p n c)]=some D:=by rw[h.is];exact zgI C H p n c h.hC h.hH
theorem zgJ(H:Array Value)(pc k:Int)(p:Option Addr)(n c:Nat)(w:World)(hH:H.size=35)(hO:Ones H)(h32:H[32]?=some (.int .u32 pc))(h33:∃z,H[33]?=some (.int .i64 z))(h34:∃z,H[34]?=some (.int .i64 z))(D:Array Value)
  (hD:Hid (Did D (ccs pc pc 2 k 0 0 0 0 0 false 0) ((H.setIfInBounds 33 (.int .i64 2)).setIfInBounds 34 (.int .i64 k)) p n c)):
  Calls prog 25 #[.agg H,.slice p n c,.int .i64 k] w fun e w'=>e=.returned (.agg D)/\Below w.heap.size w w':=by
 obtain⟨z3,h33⟩:=h33
 obtain⟨z4,h34⟩:=h34
 have HI:Hid ((prog.info? 27).map (·.size)=some ((H.setIfInBounds 33 (.int .i64 2)).setIfInBounds 34 (.int .i64 k)).size):=by show _=_;rw[qE];simp[hH]
 clear hH hO
 go_enter func25,ntmps25
 go_wp2_with(first|(refine wpList_load_row rfl 27 _ rfl _ rfl 27 _ (0,0) _ (heap_alloc2_old _ _ _) underlying27 rfl HI.out ?_)|(refine qf rfl 66 0 1 2 _ _ _ rfl _ _ _ rfl rfl rfl _ hD.out.built ?_)|(refine wpList_store_row rfl 66 _ _ rfl _ _ rfl rfl 66 _ (heap_alloc2_new _ _ _) hD.out.info hD.out.size.symm hD.out.ones ?_))
 exact bodyPost_ret (v:=.agg D) (results_cell_row results25 _ _ _ 66 D (0,0) _ rfl (setRow_heap _ _ _ _ _ _ (heap_alloc2_new _ _ _)) underlying66 rfl hD.out.info) rfl ⟨rfl,zh (((Below.refl _ _).alloc (Nat.le_refl _) _).alloc (by simp) _) (by simp) _⟩
theorem qF{w:World}{g:Nat}{o:Obj}(h:w.heap[g]?=some o)(o1 o2:Obj):((w.alloc o1).alloc o2).heap[g]?=some o:=by
 have hlt:g<w.heap.size:=(Array.getElem?_eq_some_iff.1 h).1
 rw[heap_alloc_old _ _ (by simp;omega),heap_alloc_old _ _ hlt]
 exact h
theorem qi{H:Array Value}(h:H.size=35):(prog.info? 27).map (·.size)=some H.size:=by rw[qE,h]
theorem qq(w:World)(o:Obj)(n:Nat):(w.alloc o).drewN n=(w.drewN n).alloc o:=rfl
theorem zaJ(a b:Int)(a0:0<=a)(a1:a<=4294967295)(b0:0<=b)(b1:b<=4294967295)(w:World):
  Calls prog 28 #[.int .u32 a,.int .u32 b] w fun e w'=>e=.returned (.int .u32 ((a+b)%4294967296))/\w'=w:=by
 go_enter func28,ntmps28
 go_wp2_with(go_at_call 33;refine(zkw a b a0 a1 b0 b1 _).mono ?_;rintro e w' ⟨rfl,rfl⟩)
 go_ret
 exact⟨rfl,rfl⟩
theorem vP(op:Int)(w:World):
  Calls prog 34 #[.int .i64 op] w fun e w'=>e=.returned (.int .i64 (opn op))/\w'=w:=by
 go_enter func34,ntmps34
 go_wp2
 all_goals(go_ret;refine⟨?_,rfl⟩;simp_all[opn])
theorem zjc(H:Array Value)(z0 st ca:Int)(h0:H[0]?=some (.int .u32 z0))(h33:H[33]?=some (.int .i64 st))(h34:H[34]?=some (.int .i64 ca))(w:World):
  Calls prog 16 #[.agg H] w fun e w'=>e=.returned (.bool (z0==0&&(((st==0||st==1)&&ca==0)||(st==2&&decide (1<=ca)&&decide (ca<=6)))))/\Below w.heap.size w w':=by
 go_enter func16,ntmps16
 go_wp2
 all_goals(go_ret;refine⟨?_,(Below.refl _ _).alloc (Nat.le_refl _) _⟩)
 all_goals(simp_all;try omega)
theorem zgK(H:Array Value)(z0 st ca:Int)(h0:H[0]?=some (.int .u32 z0))(h33:H[33]?=some (.int .i64 st))(h34:H[34]?=some (.int .i64 ca))(w:World):
  Calls prog 13 #[.agg H] w fun e w'=>e=.returned (.bool (z0==0&&(((st==0||st==1)&&ca==0)||(st==2&&decide (1<=ca)&&decide (ca<=6)))))/\Below w.heap.size w w':=by
 go_enter func13,ntmps13
 go_wp2
 all_goals(go_ret;refine⟨?_,(Below.refl _ _).alloc (Nat.le_refl _) _⟩)
 all_goals(simp_all;try omega)
theorem xh(pc k:Int)(w:World):
  Calls prog 105 #[.int .u32 pc,.int .i64 k] w fun e w'=>e=.returned (cv pc pc 2 k 0 0 0 0 0 false 0)/\Below w.heap.size w w':=by
 go_enter func105,ntmps105
 go_wp2
 exact bodyPost_ret (v:=cv pc pc 2 k 0 0 0 0 0 false 0) (results_cell_row results105 _ _ _ 64 _ (0,0) _ rfl (heap_alloc_new _ _) underlying64 rfl za) rfl ⟨rfl,(Below.refl _ _).alloc (Nat.le_refl _) _⟩
theorem zQ(pc:Int)(p0:0<=pc)(p1:pc<=4294967295)(w:World):
  Calls prog 107 #[.int .u32 pc] w fun e w'=>e=.returned (cv pc ((pc+4)%4294967296) 0 0 0 0 0 0 0 false 0)/\Below w.heap.size w w':=by
 go_enter func107,ntmps107
 go_wp2
 exact bodyPost_ret (v:=cv pc ((pc+4)%4294967296) 0 0 0 0 0 0 0 false 0) (results_cell_row results107 _ _ _ 64 _ (0,0) _ rfl (heap_alloc_new _ _) underlying64 rfl za) rfl ⟨rfl,(Below.refl _ _).alloc (Nat.le_refl _) _⟩
theorem zd5(pc next v:Int)(w:World):
  Calls prog 106 #[cv pc next 0 0 0 0 0 0 0 false 0,.int .i64 0,.int .u32 v] w fun e w'=>e=.returned (cv pc next 0 0 0 0 0 0 0 false 0)/\Below w.heap.size w w':=by
 go_enter func106,ntmps106
 go_wp2
 exact bodyPost_ret (v:=cv pc next 0 0 0 0 0 0 0 false 0) (results_cell_row results106 _ _ _ 64 _ (0,0) _ rfl (heap_alloc2_new _ _ _) underlying64 rfl za) rfl ⟨rfl,((Below.refl _ _).alloc (Nat.le_refl _) _).alloc (by simp) _⟩
theorem zbS(pc next v:Int)(rd:Nat)(hz:((rd:Int) != 0)=true)(w:World):
  Calls prog 106 #[cv pc next 0 0 0 0 0 0 0 false 0,.int .i64 rd,.int .u32 v] w fun e w'=>e=.returned (cv pc next 0 0 rd v 0 0 0 false 0)/\Below w.heap.size w w':=by
 go_enter func106,ntmps106
 go_wp2
 exact bodyPost_ret (v:=cv pc next 0 0 rd v 0 0 0 false 0) (results_cell_row results106 _ _ _ 64 _ (0,0) _ rfl (heap_alloc2_new _ _ _) underlying64 rfl za) rfl ⟨rfl,((Below.refl _ _).alloc (Nat.le_refl _) _).alloc (by simp) _⟩
def itab:List Int:=[0,0,0,0,0,0,0,0,0,0,0,0,0,0,0,0,0,0,0,28,31,32,33,36,37,30,34,35,0,0,0,0,0,0,0,0,0,0,0,0,0,0,0,0,0,0,0,0,0]
def Tab2(w:World):Prop:=∀i,i<49->w.cell? ⟨0,i,none⟩=some (.int .i64 (itab.getD i 0))
theorem Tab2.size{w:World}(h:Tab2 w):0<w.heap.size:=World.block_lt_of_cell? _ _ (h 0 (by omega))
theorem Tab2.below{w w':World}{B:Nat}(h:Tab2 w)(hb:Below B w w')(hB:0<B):Tab2 w':=
 fun i hi=>(hb.cell (p:=⟨0,i,none⟩) hB).trans (h i hi)
theorem zlr(a:Int)(a0:0<=a)(a1:a<=4294967295):bits .andNot .u32 a 1=a-a%2:=by
 rw[u32_andNot a 1 a0 (by omega) (by omega) (by omega)]
 rw[show(4294967295-(1:Int).toNat)=4294967294 from rfl,and_even _ (by omega)]
 omega
abbrev wd(I:Int):Int:=I%4294967296
theorem zgL(rd s1 s2 I pc A B:Int)(p0:0<=pc)(p1:pc<=4294967295)(w:World):
  Calls prog 110 #[iv 3 rd s1 s2 I,.int .u32 pc,.int .u32 A,.int .u32 B] w fun e w'=>e=.returned (.int .u32 ((pc+wd I)%4294967296))/\Below w.heap.size w w':=by
 go_enter func110,ntmps110
 go_wp2
 go_ret
 exact⟨rfl,(Below.refl _ _).alloc (Nat.le_refl _) _⟩
theorem zjd(op rd s1 s2 I pc A B:Int)(p0:0<=pc)(p1:pc<=4294967295)(hq:(op==3)=false)
  (q:∀W,Calls prog 141 #[.int .i64 op,.int .u32 A,.int .u32 B] W fun e w'=>e=.returned (.bool true)/\w'=W) (w:World):
  Calls prog 110 #[iv op rd s1 s2 I,.int .u32 pc,.int .u32 A,.int .u32 B] w fun e w'=>e=.returned (.int .u32 ((pc+wd I)%4294967296))/\Below w.heap.size w w':=by
 go_enter func110,ntmps110
 go_wp2_with fail
 refine(q _).mono ?_
 rintro e w' ⟨rfl,rfl⟩
 go_wp2
 go_ret
 exact⟨rfl,(Below.refl _ _).alloc (Nat.le_refl _) _⟩
theorem zje(op rd s1 s2 I pc A B:Int)(p0:0<=pc)(p1:pc<=4294967295)(hq:(op==3)=false)(hr:(op==4)=false)
  (q:∀W,Calls prog 141 #[.int .i64 op,.int .u32 A,.int .u32 B] W fun e w'=>e=.returned (.bool false)/\w'=W) (w:World):
  Calls prog 110 #[iv op rd s1 s2 I,.int .u32 pc,.int .u32 A,.int .u32 B] w fun e w'=>e=.returned (.int .u32 ((pc+4)%4294967296))/\Below w.heap.size w w':=by
 go_enter func110,ntmps110
 go_wp2_with fail
 refine(q _).mono ?_
 rintro e w' ⟨rfl,rfl⟩
 go_wp2
 go_ret
 exact⟨rfl,(Below.refl _ _).alloc (Nat.le_refl _) _⟩
theorem zfd(rd s1 s2 I pc A B:Int)(p0:0<=pc)(p1:pc<=4294967295)(a0:0<=A)(a1:A<=4294967295)
  (q:∀W,Calls prog 141 #[.int .i64 4,.int .u32 A,.int .u32 B] W fun e w'=>e=.returned (.bool false)/\w'=W) (w:World):
  Calls prog 110 #[iv 4 rd s1 s2 I,.int .u32 pc,.int .u32 A,.int .u32 B] w fun e w'=>e=.returned (.int .u32 ((A+wd I)%4294967296-(A+wd I)%4294967296%2))/\Below w.heap.size w w':=by
 have hb:=zlr ((A+wd I)%4294967296) (by omega) (by omega)
 go_enter func110,ntmps110
 go_wp2_with fail
 refine(q _).mono ?_
 rintro e w' ⟨rfl,rfl⟩
 go_wp2
 go_ret
 exact⟨zv (by rw[show(A+I)%4294967296=(A+wd I)%4294967296 by unfold wd;omega];exact hb),(Below.refl _ _).alloc (Nat.le_refl _) _⟩
theorem zc5(rd s1 s2 I pc A B:Int)(w:World):
  Calls prog 111 #[iv 1 rd s1 s2 I,.int .u32 pc,.int .u32 A,.int .u32 B] w fun e w'=>e=.returned (.int .u32 (wd I))/\Below w.heap.size w w':=by
 go_enter func111,ntmps111
 go_wp2
 go_ret
 exact⟨rfl,(Below.refl _ _).alloc (Nat.le_refl _) _⟩
theorem zaK(rd s1 s2 I pc A B:Int)(p0:0<=pc)(p1:pc<=4294967295)(w:World):
  Calls prog 111 #[iv 2 rd s1 s2 I,.int .u32 pc,.int .u32 A,.int .u32 B] w fun e w'=>e=.returned (.int .u32 ((pc+wd I)%4294967296))/\Below w.heap.size w w':=by
 go_enter func111,ntmps111
 go_wp2
 go_ret
 exact⟨rfl,(Below.refl _ _).alloc (Nat.le_refl _) _⟩
theorem zc6(rd s1 s2 I pc A B:Int)(p0:0<=pc)(p1:pc<=4294967295)(w:World):
  Calls prog 111 #[iv 3 rd s1 s2 I,.int .u32 pc,.int .u32 A,.int .u32 B] w fun e w'=>e=.returned (.int .u32 ((pc+4)%4294967296))/\Below w.heap.size w w':=by
 go_enter func111,ntmps111
 go_wp2
 go_ret
 exact⟨rfl,(Below.refl _ _).alloc (Nat.le_refl _) _⟩
theorem zbT(rd s1 s2 I pc A B:Int)(p0:0<=pc)(p1:pc<=4294967295)(w:World):
  Calls prog 111 #[iv 4 rd s1 s2 I,.int .u32 pc,.int .u32 A,.int .u32 B] w fun e w'=>e=.returned (.int .u32 ((pc+4)%4294967296))/\Below w.heap.size w w':=by
 go_enter func111,ntmps111
 go_wp2
 go_ret
 exact⟨rfl,(Below.refl _ _).alloc (Nat.le_refl _) _⟩
theorem zc7(m:Nat)(rd s1 s2 I pc A B O V:Int)(m0:5<=m)(m1:m<49)(ht:itab.getD m 0=O)(hO:(O != 0)=true)
  (q:∀W,Calls prog 142 #[.int .i64 O,.int .u32 A,.int .u32 (wd I)] W fun e w'=>e=.returned (.int .u32 V)/\w'=W) (w:World) (hT:Tab2 w):
  Calls prog 111 #[iv m rd s1 s2 I,.int .u32 pc,.int .u32 A,.int .u32 B] w fun e w'=>e=.returned (.int .u32 V)/\Below w.heap.size w w':=by
 have k:=hT m m1
 rw[ht]at k
 have hs:=hT.size
 have n1:((m:Int)==1)=false:=beq_eq_false_iff_ne.2 (by omega)
 have n2:((m:Int)==2)=false:=beq_eq_false_iff_ne.2 (by omega)
 have n3:((m:Int)==3)=false:=beq_eq_false_iff_ne.2 (by omega)
 have n4:((m:Int)==4)=false:=beq_eq_false_iff_ne.2 (by omega)
 clear hT ht
 go_enter func111,ntmps111
 go_wp2_with fail
 refine(q _).mono ?_
 rintro e w' ⟨rfl,rfl⟩
 go_wp2
 go_ret
 exact⟨rfl,(Below.refl _ _).alloc (Nat.le_refl _) _⟩
theorem zc8(m:Nat)(rd s1 s2 I pc A B V:Int)(m0:5<=m)(m1:m<49)(ht:itab.getD m 0=0)
  (q:∀W,Calls prog 142 #[.int .i64 m,.int .u32 A,.int .u32 B] W fun e w'=>e=.returned (.int .u32 V)/\w'=W) (w:World) (hT:Tab2 w):
  Calls prog 111 #[iv m rd s1 s2 I,.int .u32 pc,.int .u32 A,.int .u32 B] w fun e w'=>e=.returned (.int .u32 V)/\Below w.heap.size w w':=by
 have k:=hT m m1
 rw[ht]at k
 have hs:=hT.size
 have n1:((m:Int)==1)=false:=beq_eq_false_iff_ne.2 (by omega)
 have n2:((m:Int)==2)=false:=beq_eq_false_iff_ne.2 (by omega)
 have n3:((m:Int)==3)=false:=beq_eq_false_iff_ne.2 (by omega)
 have n4:((m:Int)==4)=false:=beq_eq_false_iff_ne.2 (by omega)
 clear hT ht
 go_enter func111,ntmps111
 go_wp2_with fail
 refine(q _).mono ?_
 rintro e w' ⟨rfl,rfl⟩
 go_wp2
 go_ret
 exact⟨rfl,(Below.refl _ _).alloc (Nat.le_refl _) _⟩
end Go.Proofs.YtpiohehijkpghabGreatDoor
