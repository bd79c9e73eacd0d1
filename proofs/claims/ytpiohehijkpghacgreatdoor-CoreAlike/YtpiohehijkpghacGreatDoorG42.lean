/- What keeps a core from being run: the program. -/
import Derived.Test.YtpiohehijkpghacGreatDoorG41
import Derived.Test.YtpiohehijkpghacGreatDoorG01
set_option maxRecDepth 20000
set_option maxHeartbeats 6000000
namespace Go.Proofs.YtpiohehijkpghacGreatDoor.Co
open Go.RowKit
open Hy
open Wi Od Re.Hy
open Gu.Hy (Tb tcs)
set_option linter.unusedVariables false
set_option linter.unusedSimpArgs false
theorem wpList_build4 {P:Program} {ops:Array Oper} {rest:List Oper} {o:Oper} {a:Act} {w:World} {Q:Exit→Act→World→Prop} (hg:o.guard=none) (t:TypeId) (i0 i1 i2 i3:Nat) (x0 x1 x2 x3:Operand) (ho:o.op=.build t #[(i0,x0),(i1,x1),(i2,x2),(i3,x3)])
  (v0 v1 v2 v3:Value) (e0:a.eval x0=v0) (e1:a.eval x1=v1) (e2:a.eval x2=v2) (e3:a.eval x3=v3) (cells:Array Value)
  (hb:P.built t [(i0,v0),(i1,v1),(i2,v2),(i3,v3)]=some cells)
  (h:wpList P ops Q rest (a.put o.dst (.agg cells)) w):wpList P ops Q (o::rest) a w:=
 wpList_build_to hg t _ ho cells (by simp[e0,e1,e2,e3,hb]) h
theorem size_words:(Tryz.prog.info? 25).map (·.size)=some 32:=by kernel_rfl
theorem bConcat_b {w:World} {mp:Option Addr} {n mc:Nat} {f:Nat→Int} (hM:LC w mp n mc 1 (bcs f n)) (hn:n≤4096) (hf:∀i,i<n→0≤f i∧f i≤255) (W:World) (hW:Below w.heap.size w W) (q:Nat) (hq:q<W.heap.size) (k0:W.cell? ⟨q,0,none⟩=some (.slice mp n mc)):
  Calls Tryz.prog 27 #[.slice (some ⟨q,0,none⟩) 1 1] W fun e w'=>(∃a c,e=.returned (.slice a n c)∧Bys w' a n c f∧FarC W.heap.size a)∧Below W.heap.size W w':=by
 refine(bConcat_one q mp n mc (bcs f n) (by omega) W hq k0 (hM.below (Nat.le_refl _) hW)).mono ?_
 rintro e w' ⟨⟨v,rfl,ho⟩,hb⟩
 obtain⟨a,c,rfl,h1,h2⟩:=bys_of_own ho hn hf
 exact⟨⟨a,c,rfl,h1,h2⟩,hb⟩
theorem below_grown {B:Nat} {w V V':World} {b:Nat} (h:Below B w V) (hB:B≤V.heap.size) (g:V.grownBy V' (some b)) (hb:B≤b):Below B w V':=
 ⟨g.os.trans h.os,g.tape.trans h.tape,g.output.trans h.output,Nat.le_trans h.size g.size,fun k hk=>(g.block k (by omega) (fun e=>by have:=Option.some.inj e;omega)).trans (h.block k hk)⟩
theorem size_u32:(Tryz.prog.info? 24).map (·.size)=some 1:=by kernel_rfl
theorem idx_reg (Q:Array Value) (k:Nat) (hk:k<32) (v:Value) (h:Q[k]?=some v) (w:World):(Instr.index 25 (.agg Q) (.int .i64 (k:Int))).run Tryz.prog w=.ok v w:=by
 have hsz:(sizeOf 24).run Tryz.prog w=.ok 1 w:=by
  have:=size_u32
  cases hq:Tryz.prog.info? 24 with
  |none=>rw[hq]at this;cases this
  |some i=>rw[hq]at this;simp at this;simp[sizeOf,typeInfo,hq,this]
 simp[Instr.index,asIntOf,run_underlying Tryz.underlying25,hsz,part,h,run_underlying Tryz.underlying24,isAgg]
 intro h2
 omega
theorem lie_free {w:World} {a:Option Addr} {P c:Nat} (h:Re.Lie w a (P-32) c (fun i=>32+(i:Int))):Re.Lie w a ((List.range (P-32)).map (fun i:Nat=>32+(i:Int))).length c (fun i=>((List.range (P-32)).map (fun i:Nat=>32+(i:Int))).getD i 0):=by
 rw[List.length_map,List.length_range]
 refine h.congr fun i hi=>?_
 rw[List.getD_eq_getElem?_getD,List.getElem?_map,List.getElem?_range hi]
 rfl
theorem mat_rg {P:Int} (hP:33≤P) (v:Value):rowOf (mat P (Re.rg P.toNat) v) 34=rowOf (mat P (fun i=>(i:Int)) v) 34:=rowOf_congr fun i hi=>by
 unfold mat
 split
 ·rfl
 ·split
  ·unfold Re.rg
   rw[if_pos (by omega)]
  ·rfl
theorem cbegin_any {N:Nat} {w:World} (hN:N≤w.heap.size) (g1:0<N) (g2:2<N) (tb:Tab w) (tb2:Tab2 w) (win phys wide:Int) (p0:33≤phys) (p1:phys≤96) (R:Nat→Int) (pc st ca:Int) (mp:Option Addr) (n mc:Nat) (f:Nat→Int) (hM:LC w mp n mc 1 (bcs f n)) (hn:n≤4096) (hf:∀i,i<n→0≤f i∧f i≤255) (sp:Option Addr) (sc:Nat) (scr:List Int) (hS:LC w sp scr.length sc 1 (ics scr)):
  Calls Tryz.prog 12 #[.agg #[.int .i64 win,.int .i64 phys,.int .i64 wide],.agg (rowOf (hat R pc st ca) 35),.slice mp n mc,.slice sp scr.length sc] w fun e w'=>(∃b L,e=.returned (.pointer (some ⟨b,0,none⟩))∧St N w' b (begin win phys wide n R pc st ca f scr) L∧∀g,own b L g→w.heap.size≤g)∧Below w.heap.size w w':=by
 obtain⟨H,hH⟩:∃H,H=rowOf (hat R pc st ca) 35:=⟨_,rfl⟩
 rw[←hH]
 have HH:Hid (H=rowOf (hat R pc st ca) 35):=hH
 have h32:H[32]?=some (.int .u32 pc):=by rw[hH];exact rowOf_get _ (by omega)
 have HHI:Hid (H.size=35∧(Tryz.prog.info? 27).map (·.size)=some H.size∧H.all (·.oneCell')=true):=by rw[hH];exact⟨rowOf_size _ _,by rw[rowOf_size];exact size_hart,hart_ones _ _ _ _⟩
 obtain⟨X,hX⟩:∃X,X=rowOf (built0 win phys wide pc (.slice sp scr.length sc)) 339:=⟨_,rfl⟩
 have HX:Hid (X=rowOf (built0 win phys wide pc (.slice sp scr.length sc)) 339):=hX
 have HBX:Hid (Tryz.prog.built 66 [(0,.agg #[.int .i64 win,.int .i64 phys,.int .i64 wide]),(9,.slice sp scr.length sc),(10,.int .u32 pc),(11,.bool true)]=some X):=by rw[hX];exact built_core win phys wide pc sp scr.length sc
 have HA:Hid (N≤w.heap.size∧Tab w∧Tab2 w∧LC w mp n mc 1 (bcs f n)∧LC w sp scr.length sc 1 (ics scr)):=⟨hN,tb,tb2,hM,hS⟩
 have hs35:H.size=35:=HHI.out.1
 obtain⟨sn,hsn⟩:∃sn,sn=scr.length:=⟨_,rfl⟩
 rw[←hsn]at HX HBX HA hS⊢
 have HSN:Hid (sn=scr.length):=hsn
 clear hH hX hN tb tb2 hM hS hsn
 go_enter Tryz.func12,Tryz.ntmps12
 go_upto_region 1 with fail
 refine Wi.two_boxes (Φ:=fun W=>Code.wp _ _ _ _ W) ?_
 intro V e1 e2 hb hsz
 have HQ:Hid (V.heap[w.heap.size+1]?=some (.cells H 27 (0,0))):=e2
 have k0:V.cell? ⟨w.heap.size,0,none⟩=some (.int .i64 win):=by rw[cell_of_row _ _ _ _ _ _ e1];rfl
 have k1:V.cell? ⟨w.heap.size,1,none⟩=some (.int .i64 phys):=by rw[cell_of_row _ _ _ _ _ _ e1];rfl
 have k2:V.cell? ⟨w.heap.size,2,none⟩=some (.int .i64 wide):=by rw[cell_of_row _ _ _ _ _ _ e1];rfl
 have kh:V.cell? ⟨w.heap.size+1,32,none⟩=some (.int .u32 pc):=by rw[cell_of_row _ _ _ _ _ _ e2];exact h32
 have HB:Hid (Below w.heap.size w V):=hb
 have hqV:w.heap.size+1<V.heap.size:=by omega
 clear e1 e2 hb hsz
 obtain⟨h,hh⟩:∃h,h=w.heap.size+1:=⟨_,rfl⟩
 obtain⟨q,hq⟩:∃q,q=w.heap.size:=⟨_,rfl⟩
 rw[←hh]at HQ kh hqV⊢
 rw[←hq]at k0 k1 k2⊢
 have HQW:Hid (q=w.heap.size∧h=w.heap.size+1):=⟨hq,hh⟩
 clear hq hh
 go_upto_region 2 with(refine wpList_build4 rfl 66 0 9 10 11 _ _ _ _ rfl (.agg #[.int .i64 win,.int .i64 phys,.int .i64 wide]) (.slice sp sn sc) (.int .u32 pc) (.bool true) rfl rfl rfl rfl X HBX.out ?_)
 refine Wi.one_box (Φ:=fun W=>Code.wp _ _ _ _ W) ?_
 intro V1 r1 hb1
 have hbw:w.heap.size+2≤V.heap.size:=by have:=HQW.out;omega
 have HB1:Hid (Below w.heap.size w V1):=HB.out.trans (hb1.mono HB.out.size)
 have R1:Hid (V1.heap[h]?=some (.cells H 27 (0,0))):=(hb1.block h hqV).trans HQ.out
 have hb1s:V.heap.size<V1.heap.size:=(Array.getElem?_eq_some_iff.1 r1).1
 rw[HX.out]at r1
 obtain⟨b,hbb⟩:∃b,b=V.heap.size:=⟨_,rfl⟩
 rw[←hbb]at r1 hbw hb1s hqV⊢
 have ROW1:Hid (V1.heap[b]?=some (.cells (rowOf (built0 win phys wide pc (.slice sp sn sc)) 339) 66 (0,0))):=r1
 have CCo:Hid (∀W q,Below w.heap.size w W→q<W.heap.size→W.cell? ⟨q,0,none⟩=some (.slice mp n mc)→Calls Tryz.prog 27 #[.slice (some ⟨q,0,none⟩) 1 1] W fun e w'=>(∃a c,e=.returned (.slice a n c)∧Bys w' a n c f∧FarC W.heap.size a)∧Below W.heap.size W w'):=fun W q hW hq k0=>bConcat_b HA.out.2.2.2.1 hn hf W hW q hq k0
 have hhb:h≠b:=by omega
 have RG:Hid (V1.rangeAt h 0 H.toList):=fun j v hj=>by rw[cell_of_row _ _ _ _ _ _ R1.out,Nat.zero_add,←Array.getElem?_toList];exact hj
 have HHL:Hid ((Tryz.prog.info? 27).map (·.size)=some H.toList.length):=by show _=_;rw[Array.length_toList];exact HHI.out.2.1
 clear hb1 r1 hbb HB HQ HX HBX k0 k1 k2 kh h32 hs35
 refine startZ (S:=fun w'=>w'.rangeAt h 0 (H.toList)) [9,13] (by kernel_rfl) (RG.out) (fun hH=>?_)
 refine tU 0 (.pointer (some ⟨b,0,none⟩)) rfl hH ?_;try go_simp
 refine tU 1 (.pointer (some ⟨b,0,none⟩)) rfl hH ?_;try go_simp
 refine tS 2 (.agg (H.toList).toArray) rfl (yieldsIf_load_mid (by rfl) 27 _ rfl _ _ rfl (H.toList) _ (fun wz hSw=>hSw) Tryz.underlying27 rfl HHL.out) hH ?_;try go_simp
 refine tU 3 (.slice mp n mc) rfl hH ?_;try go_simp
 refine zC 4 rfl (fun K hK=>?_)
 go_simp
 refine hK.out _ _ (keepAr _ (hH)) (fun hN=>?_)
 clear hK K hH
 have hH:=hN
 clear hN
 try go_simp
 refine zC 5 rfl (fun K hK=>?_)
 go_simp
 refine(CCo.out _ V1.heap.size (HB1.out.drew.alloc HB1.out.size _) (by simp) (new_cells (w:=V1.drew) (cs:=[.slice mp n mc]) 0 _ rfl)).mono ?_
 rintro e V2 ⟨⟨ma,mc2,rfl,hB2,hF2⟩,hk2⟩
 have HK2:Hid (Below V1.heap.size V1 V2):=(((Below.refl _ V1).drew).alloc (Nat.le_refl _) _).trans (hk2.mono (by simp))
 have HBY:Hid (Bys V2 ma n mc2 f∧∀x,ma=some x→V1.heap.size≤x.block):=⟨hB2,fun x hx=>by have:=hF2 x hx;simp at this;omega⟩
 clear hB2 hF2
 go_wp2_with fail
 refine hK.out _ _ (keepR hk2 hH) (fun hN=>?_)
 clear hK K hH
 have hH:=hN
 clear hN
 try go_simp
 have ROW2:Hid (V2.heap[b]?=some (.cells (rowOf (built0 win phys wide pc (.slice sp sn sc)) 339) 66 (0,0))):=(HK2.out.block b hb1s).trans ROW1.out
 have ROW3:Hid ((V2.setCells b 4 H.toList).heap[b]?=some (.cells (rowOf (ups (built0 win phys wide pc (.slice sp sn sc)) 4 35 (hat R pc st ca)) 339) 66 (0,0))):=by
  have h3:=row_puts H.toList (w:=V2) (o:=4) (b:=b) (n:=339) (hat R pc st ca) (fun j u hj=>by
   rw[HH.out,Array.getElem?_toList]at hj
   have hj35:j<35:=by have:=(Array.getElem?_eq_some_iff.1 hj).1;rw[rowOf_size]at this;exact this
   rw[rowOf_get _ hj35]at hj
   exact(Option.some.inj hj).symm) ROW2.out
  rw[Array.length_toList,HHI.out.1]at h3
  exact h3
 have cA:(V2.setCells b 4 H.toList).cell? ⟨b,39,none⟩=some (.slice none 0 0):=(cell_at ROW3.out (by omega)).trans rfl
 have fA:(V2.setCells b 4 H.toList).frozen? ⟨b,39,none⟩=false:=frozen_of_row _ _ _ _ _ ROW3.out
 refine tU 6 (.pointer (some ⟨b,0,none⟩)) rfl hH ?_;try go_simp
 refine tU 7 (.pointer (some ⟨b,3,none⟩)) rfl hH ?_;try go_simp
 refine tU 8 (.pointer (some ⟨b,4,none⟩)) rfl hH ?_;try go_simp
 refine zL 9 rfl (fun K hK=>?_)
 rw[if_pos (by rfl)]
 refine wp_store_mid 27 _ _ rfl b 4 (H) rfl rfl (by rw[HHI.out.1];exact there_of_row ROW2.out (by omega)) (HHI.out.2.1) (HHI.out.2.2) ?_
 refine hK.out _ _ ?_
 clear hK K
 try go_simp
 refine tV 10 (.pointer (some ⟨b,0,none⟩)) rfl (fun h=>absurd h (by decide)) ?_;try go_simp
 refine tV 11 (.pointer (some ⟨b,3,none⟩)) rfl (fun h=>absurd h (by decide)) ?_;try go_simp
 refine tV 12 (.pointer (some ⟨b,39,none⟩)) rfl (fun h=>absurd h (by decide)) ?_;try go_simp
 refine zL 13 rfl (fun K hK=>?_)
 go_simp
 refine hK.out _ _ ?_
 clear hK K
 try go_simp
 refine doneZ (by kernel_rfl) ?_ _
 have HG:Hid (V2.grownBy ((V2.setCells b 4 H.toList).setCell ⟨b,39,none⟩ (.slice ma n mc2)) (some b)):=grown_trans (heap_puts _ _ _ _) (grown_put _ _ _ _)
 have ROW4:Hid (((V2.setCells b 4 H.toList).setCell ⟨b,39,none⟩ (.slice ma n mc2)).heap[b]?=some (.cells (rowOf (upf (ups (built0 win phys wide pc (.slice sp sn sc)) 4 35 (hat R pc st ca)) 39 (.slice ma n mc2)) 339) 66 (0,0))):=row_put ROW3.out
 generalize (V2.setCells b 4 H.toList).setCell ⟨b,39,none⟩ (.slice ma n mc2)=V4 at*
 have hHB2:=HB1.out.trans (HK2.out.mono HB1.out.size)
 have HB4:Hid (Below w.heap.size w V4):=below_grown hHB2 hHB2.size HG.out (by omega)
 have HBY4:Hid (Bys V4 ma n mc2 f):=bys_move HBY.out.1 fun h0 x hx=>HG.out.block _ (by
  obtain⟨g,o,e,hl⟩:=HBY.out.1.hm h0
  rw[hx]at e
  cases e
  exact World.block_lt_of_cell? _ _ (hl 0 h0)) (fun e=>by have:=HBY.out.2 x hx;have:=Option.some.inj e;omega)
 have R4:Hid (V4.heap[h]?=some (.cells H 27 (0,0))):=(HG.out.block h (by have:=HK2.out.size;omega) (fun e=>hhb (Option.some.inj e))).trans ((HK2.out.block h (by omega)).trans R1.out)
 have hb4:b<V4.heap.size:=(Array.getElem?_eq_some_iff.1 ROW4.out).1
 have HMA:Hid (∀x,ma=some x→x.block≠b):=fun x hx e=>by have:=HBY.out.2 x hx;omega
 clear hHB2 HG ROW3 ROW2 ROW1 HBY HB1 R1 RG hH cA fA HK2 HHL hb1s hqV hhb
 have k1:V4.cell? ⟨b,1,none⟩=some (.int .i64 phys):=(cell_at ROW4.out (by omega)).trans rfl
 have CN:Hid (Calls Tryz.prog 28 #[.int .i64 phys] V4 fun e w'=>(∃a' c',e=.returned (.tuple #[.agg (rowOf (mat phys (fun i=>(i:Int)) (.slice a' (phys.toNat-32) c')) 34),.int .i64 0])∧Re.Lie w' a' (phys.toNat-32) c' (fun i=>32+(i:Int))∧Re.Far V4.heap.size a')∧Below V4.heap.size V4 w'):=by
  refine(Re.nNew_far phys p0 p1 V4).mono ?_
  rintro e w' ⟨⟨a',c',h1,h2,h3⟩,h4⟩
  rw[mcs_row,mat_rg p0]at h1
  exact⟨⟨a',c',h1,h2,h3⟩,h4⟩
 go_wp2_with fail
 refine CN.out.mono ?_
 rintro e V5 ⟨⟨a',c',rfl,hL5,hF5⟩,hk5⟩
 have ROW5:Hid (V5.heap[b]?=some (.cells (rowOf (upf (ups (built0 win phys wide pc (.slice sp sn sc)) 4 35 (hat R pc st ca)) 39 (.slice ma n mc2)) 339) 66 (0,0))):=(hk5.block b hb4).trans ROW4.out
 have HB5:Hid (Below w.heap.size w V5):=HB4.out.trans (hk5.mono HB4.out.size)
 have ITS:Hid (Its N V5 b (bg win phys wide n R pc st ca f scr 0) (bgL (.slice ma n mc2) (.slice a' (phys.toNat-32) c') (.slice sp sn sc))):=by
  have hown:∀g,own b (bgL (.slice ma n mc2) (.slice a' (phys.toNat-32) c') (.slice sp sn sc)) g→g=b:=fun g hg=>by
   rcases hg with h|h|h|h
   ·exact h
   ·cases h
   ·cases h
   ·cases h
  have us0:∀e size,Us V5 e size (.slice none 0 0) 0 []:=fun e size=>⟨by simp,fun u hu=>(by cases hu),.inl ⟨rfl,rfl⟩⟩
  refine⟨us0 _ _,us0 _ _,us0 _ _,⟨ma,mc2,rfl,HBY4.out.below hk5⟩,⟨a',c',?_,lie_free hL5⟩,⟨none,0,rfl,lc_none V5 2⟩,⟨sp,sc,?_,?_⟩,fun g hg _ ho=>?_,fun g hg _ ho=>?_,fun g hg h0=>absurd h0 (by show¬0<0;omega),fun g hg h0 ho=>?_,fun g ho=>?_,?_,?_,g1,g2,Nat.le_trans HA.out.1 HB5.out.size⟩
  ·show Value.slice a' (phys.toNat-32) c'=.slice a' ((List.range (phys.toNat-32)).map (fun i:Nat=>32+(i:Int))).length c'
   rw[List.length_map,List.length_range]
  ·show Value.slice sp sn sc=.slice sp scr.length sc
   rw[HSN.out]
  ·show LC V5 sp scr.length sc 1 (ics scr)
   rw[←HSN.out]
   exact HA.out.2.2.2.2.below (Nat.le_refl _) HB5.out
  ·have e:=hown g ho
   subst e
   cases ma with
   |none=>cases hg
   |some x=>exact HMA.out x rfl (Option.some.inj hg)
  ·have e:=hown g ho
   subst e
   cases a' with
   |none=>cases hg
   |some x=>have:=hF5 x rfl;have:x.block=g:=Option.some.inj hg;omega
  ·have e:=hown g ho
   subst e
   have h0':0<sn:=by rw[HSN.out];exact h0
   cases sp with
   |none=>cases hg
   |some x=>
    obtain⟨g',o',e',hlt,_⟩:=HA.out.2.2.2.2.ad x rfl h0'
    subst e'
    have:g'=g:=Option.some.inj hg
    omega
  ·rw[hown g ho]
   have:=HA.out.1
   omega
  ·exact HA.out.2.1.below HB5.out (by have:=HA.out.1;omega)
  ·exact HA.out.2.2.1.below HB5.out (by have:=HA.out.1;omega)
 have S6:Hid (St N (V5.setCells b 107 (rowOf (mat phys (fun i=>(i:Int)) (.slice a' (phys.toNat-32) c')) 34).toList) b (bg win phys wide n R pc st ca f scr 0) (bgL (.slice ma n mc2) (.slice a' (phys.toNat-32) c') (.slice sp sn sc))):=St.cells ROW5.out ITS.out 107 (fun j hj=>kat_bg win phys wide n R pc st ca f scr _ _ _ j hj)
 have HOW:Hid (∀g,own b (bgL (.slice ma n mc2) (.slice a' (phys.toNat-32) c') (.slice sp sn sc)) g→g=b):=fun g hg=>by
  rcases hg with h|h|h|h
  ·exact h
  ·cases h
  ·cases h
  ·cases h
 have HG6:=heap_puts V5 b 107 (rowOf (mat phys (fun i=>(i:Int)) (.slice a' (phys.toNat-32) c')) 34).toList
 have HB6:Hid (Below w.heap.size w (V5.setCells b 107 (rowOf (mat phys (fun i=>(i:Int)) (.slice a' (phys.toNat-32) c')) 34).toList)):=below_grown HB5.out HB5.out.size HG6 (by omega)
 have R6:Hid ((V5.setCells b 107 (rowOf (mat phys (fun i=>(i:Int)) (.slice a' (phys.toNat-32) c')) 34).toList).heap[h]?=some (.cells H 27 (0,0))):=(HG6.block h (by have:=hk5.size;have:=(Array.getElem?_eq_some_iff.1 R4.out).1;omega) (fun e=>by have:=Option.some.inj e;have:=HQW.out;omega)).trans ((hk5.block h (Array.getElem?_eq_some_iff.1 R4.out).1).trans R4.out)
 have HTH:Hid (V5.there b 107 (rowOf (mat phys (fun i=>(i:Int)) (.slice a' (phys.toNat-32) c')) 34).size):=by rw[rowOf_size];exact there_of_row ROW5.out (by omega)
 have HSZ:Hid ((Tryz.prog.info? 59).map (·.size)=some (rowOf (mat phys (fun i=>(i:Int)) (.slice a' (phys.toNat-32) c')) 34).size):=by have:=mpL_size phys (fun i=>(i:Int)) (.slice a' (phys.toNat-32) c');rw[Array.length_toList]at this;exact this
 clear hL5 hF5 hk5 HG6 ROW5 ROW4 HB4 HB5 HBY4 R4 ITS HMA k1 CN hb4
 go_upto_region 4 with(refine wpList_store_mid rfl 59 _ _ rfl b 107 (rowOf (mat phys (fun i=>(i:Int)) (.slice a' (phys.toNat-32) c')) 34) rfl rfl HTH.out HSZ.out (mpL_ones _ _ _ _ _) ?_)
 clear HTH HSZ
 generalize V5.setCells b 107 (rowOf (mat phys (fun i=>(i:Int)) (.slice a' (phys.toNat-32) c')) 34).toList=V6 at*
 generalize bgL (.slice ma n mc2) (.slice a' (phys.toNat-32) c') (.slice sp sn sc)=L6 at*
 obtain⟨Q,hQ⟩:∃Q,Q=rowOf (fun i=>Value.int .u32 (R i)) 32:=⟨_,rfl⟩
 have HQQ:Hid (Q=(rowOf (fun i=>Value.int .u32 (R i)) 32).toList.toArray):=by show _=_;rw[hQ]
 have HQa:Hid (∀k,k<32→Q[k]?=some (.int .u32 (R k))):=fun k hk=>by rw[hQ];exact rowOf_get _ hk
 have hQs:Q.size=32:=by rw[hQ];exact rowOf_size _ _
 have RR:Hid (V6.rangeAt h 0 (rowOf (fun i=>Value.int .u32 (R i)) 32).toList):=fun j v hj=>by
  have hj32:j<32:=by have:=(List.getElem?_eq_some_iff.1 hj).1;rw[Array.length_toList,rowOf_size]at this;exact this
  rw[Array.getElem?_toList,rowOf_get _ hj32]at hj
  rw[cell_of_row _ _ _ _ _ _ R6.out,Nat.zero_add,HH.out,rowOf_get _ (by omega),←hj]
  unfold hat
  rw[if_pos hj32]
 have HRS:Hid ((Tryz.prog.info? 25).map (·.size)=some (rowOf (fun i=>Value.int .u32 (R i)) 32).toList.length):=by show _=_;rw[Array.length_toList,rowOf_size];exact size_words
 clear hQ R6
 go_wp2_with(refine wpList_load_mid rfl 25 _ rfl h 0 rfl (rowOf (fun i=>Value.int .u32 (R i)) 32).toList _ RR.out Tryz.underlying25 rfl HRS.out ?_;rw[←HQQ.out])
 go_loopw [45] (fun i wr=>∃k:Nat,k≤32∧i=.int .i64 (k:Int)∧Hid (St N wr b (bg win phys wide n R pc st ca f scr k) L6∧Below w.heap.size w wr))
  (fun i _=>32-(intOf i).toNat)
 case atStart=>exact⟨0,by omega,rfl,S6.out,HB6.out⟩
 case round=>
  obtain⟨k,hk,rfl,S7,B7⟩:=hrel
  clear S6 HB6 RR
  by_cases hlt:k<32
  ·have hQk:=HQa.out k hlt
   have HS7:Hid (St N wr b (bg win phys wide n R pc st ca f scr k) L6):=S7
   have HB7:Hid (Below w.heap.size w wr):=B7
   have cr:wr.cell? ⟨b,108+k,none⟩=some (.int .i64 (k:Int)):=S7.reg k hlt
   have cw:=S7.wrd k (by omega)
   have ct:=S7.thr k (by omega)
   have fw:=S7.frozen (141+k)
   have ft:=S7.frozen (237+k)
   have k0:0≤(k:Int):=by omega
   have k1:(k:Int)<32:=by omega
   have k9:(k:Int)<96:=by omega
   have hidx:∀w,(Instr.index 25 (.agg Q) (.int .i64 (k:Int))).run Tryz.prog w=.ok (.int .u32 (R k)) w:=idx_reg Q k hlt _ hQk
   clear S7 B7 hQk
   go_upto_region 8 with fail
   refine startZ (S:=fun w'=>True) [8,12] (by kernel_rfl) (trivial) (fun hH=>?_)
   refine tU 0 (.pointer (some ⟨b,0,none⟩)) rfl hH ?_;try go_simp
   refine tU 1 (.int .i64 (k:Int)) rfl hH ?_;try go_simp
   refine tU 2 (.pointer (some ⟨b,0,none⟩)) rfl hH ?_;try go_simp
   refine tU 3 (.int .i64 (k:Int)) rfl hH ?_;try go_simp
   refine tU 4 (.int .u32 (R k)) rfl hH ?_;try go_simp
   refine tU 5 (.pointer (some ⟨b,0,none⟩)) rfl hH ?_;try go_simp
   refine tU 6 (.pointer (some ⟨b,141,none⟩)) rfl hH ?_;try go_simp
   refine tU 7 (.pointer (some ⟨b,141+k,none⟩)) rfl hH ?_;try go_simp
   refine tU 9 (.pointer (some ⟨b,0,none⟩)) rfl hH ?_;try go_simp
   refine tU 10 (.pointer (some ⟨b,237,none⟩)) rfl hH ?_;try go_simp
   refine zL 8 rfl (fun K hK=>?_)
   go_simp
   refine hK.out _ _ ?_
   clear hK K
   try go_simp
   refine tV 11 (.pointer (some ⟨b,237+k,none⟩)) rfl (fun h=>absurd h (by decide)) ?_;try go_simp
   refine zL 12 rfl (fun K hK=>?_)
   go_simp
   refine hK.out _ _ ?_
   clear hK K
   try go_simp
   refine doneZ (by kernel_rfl) ?_ _
   obtain⟨s8,t8⟩:=HS7.out.setWd k (by omega) (R k)
   obtain⟨s9,t9⟩:=s8.setTh k (by omega) true
   rw[bg_wd]at s9
   have S9:Hid (St N ((wr.setCell ⟨b,141+k,none⟩ (.int .u32 (R k))).setCell ⟨b,237+k,none⟩ (.bool true)) b (bg win phys wide n R pc st ca f scr (k+1)) L6):=s9
   have HG9:=grown_trans (grown_put wr b (141+k) (.int .u32 (R k))) (grown_put (wr.setCell ⟨b,141+k,none⟩ (.int .u32 (R k))) b (237+k) (.bool true))
   have B9:Hid (Below w.heap.size w ((wr.setCell ⟨b,141+k,none⟩ (.int .u32 (R k))).setCell ⟨b,237+k,none⟩ (.bool true))):=below_grown HB7.out HB7.out.size HG9 (by omega)
   clear s8 t8 s9 t9 HG9 hH cr cw ct fw ft HS7 HB7
   generalize (wr.setCell ⟨b,141+k,none⟩ (.int .u32 (R k))).setCell ⟨b,237+k,none⟩ (.bool true)=V9 at*
   go_wp2_with fail
   exact⟨⟨k+1,by omega,by go_num,S9.out.dr,B9.out.drew⟩,by simp[intOf];omega⟩
  ·have hk32:k=32:=by omega
   subst hk32
   rw[bg_all]at S7
   have HS7:Hid (St N wr b (begin win phys wide n R pc st ca f scr) L6):=S7
   have HB7:Hid (Below w.heap.size w wr):=B7
   clear S7 B7
   go_wp2_with fail
   go_ret
   exact⟨⟨b,L6,rfl,HS7.out,fun g hg=>by rw[HOW.out g hg];omega⟩,HB7.out⟩
def wrongN (a hm:Bool) (n sn:Nat) (cyc:Int):Int:=if a=false∨hm=false∨4096<n then 2 else if 3000<sn then 1 else if¬(0≤cyc∧cyc≤6000)then 3 else 0
theorem cwrong_any (win phys wide:Int) (H:Array Value) (hm:Bool) (HH:Hid ((Tryz.prog.info? 27).map (·.size)=some H.size)) (CM:Hid (∀W,Calls Tryz.prog 25 #[.agg H] W fun e w'=>e=.returned (.bool hm)∧Below W.heap.size W w')) (mp:Option Addr) (n mc:Nat) (sp:Option Addr) (sn sc:Nat) (cyc:Int) (hn:n≤140737488355328) (hsn:sn≤140737488355328) (w:World):
  Calls Tryz.prog 11 #[.agg #[.int .i64 win,.int .i64 phys,.int .i64 wide],.agg H,.slice mp n mc,.slice sp sn sc,.int .i64 cyc] w fun e w'=>e=.returned (.int .i64 (wrongN (mayC win phys wide) hm n sn cyc))∧Below w.heap.size w w':=by
 have C1:=fun W=>cMay_any win phys wide W
 have C3:=fun W=>cwithin_any cyc 0 6000 W
 obtain⟨a,ha⟩:∃a,a=mayC win phys wide:=⟨_,rfl⟩
 rw[←ha]at C1⊢
 obtain⟨d,hd⟩:∃d,d=decide (0≤cyc∧cyc≤6000):=⟨_,rfl⟩
 rw[←hd]at C3
 have HD:Hid (d=decide (0≤cyc∧cyc≤6000)):=hd
 clear ha hd
 go_enter Tryz.func11,Tryz.ntmps11
 go_upto_region 1 with fail
 refine Wi.two_boxes (Φ:=fun W=>Code.wp _ _ _ _ W) ?_
 intro V e1 e2 hb hsz
 have HQ:Hid (V.heap[w.heap.size+1]?=some (.cells H 27 (0,0))):=e2
 have k0:V.cell? ⟨w.heap.size,0,none⟩=some (.int .i64 win):=by rw[cell_of_row _ _ _ _ _ _ e1];rfl
 have k1:V.cell? ⟨w.heap.size,1,none⟩=some (.int .i64 phys):=by rw[cell_of_row _ _ _ _ _ _ e1];rfl
 have k2:V.cell? ⟨w.heap.size,2,none⟩=some (.int .i64 wide):=by rw[cell_of_row _ _ _ _ _ _ e1];rfl
 have HB:Hid (Below w.heap.size w V):=hb
 have hqV:w.heap.size+1<V.heap.size:=by omega
 clear e1 e2 hb hsz
 obtain⟨h,hh⟩:∃h,h=w.heap.size+1:=⟨_,rfl⟩
 obtain⟨q,hq⟩:∃q,q=w.heap.size:=⟨_,rfl⟩
 rw[←hh]at HQ hqV⊢
 rw[←hq]at k0 k1 k2
 have hgoal:∀e:Int,e=wrongN a hm n sn cyc→∀V':World,Below w.heap.size w V'→(Ending.returned (.int .i64 e)=.returned (.int .i64 (wrongN a hm n sn cyc))∧Below w.heap.size w V'):=fun e he V' hV=>⟨by rw[he],hV⟩
 have HG:Hid _:=hgoal
 rw[←hq]
 have HQW:Hid (q=w.heap.size):=hq
 clear hq hh hgoal
 go_wp2_with fail
 refine(C1 _).mono ?_
 rintro e V1 ⟨rfl,hk1⟩
 have B1:Hid (Below w.heap.size w V1):=HB.out.trans (hk1.mono HB.out.size)
 have Q1:Hid (V1.heap[h]?=some (.cells H 27 (0,0))):=(hk1.block h hqV).trans HQ.out
 clear hk1 HB HQ C1 k0 k1 k2
 cases a with
 |false=>
  go_wp2_with fail
  go_ret
  exact HG.out 2 (by simp[wrongN]) _ B1.out
 |true=>
  go_wp2_with(refine wpList_load_row rfl 27 _ rfl _ rfl 27 _ (0,0) _ Q1.out Tryz.underlying27 rfl HH.out ?_)
  refine(CM.out _).mono ?_
  rintro e V2 ⟨rfl,hk2⟩
  have B2:Hid (Below w.heap.size w V2):=B1.out.trans (hk2.mono B1.out.size)
  clear hk2 B1 Q1 CM
  cases hm with
  |false=>
   go_wp2_with fail
   go_ret
   exact HG.out 2 (by simp[wrongN]) _ B2.out
  |true=>
   by_cases h4:4096<n
   ·have h4':(4096:Int)<(n:Int):=by omega
    have HW:Hid ((2:Int)=wrongN true true n sn cyc):=by show _=_;unfold wrongN;rw[if_pos (.inr (.inr h4))]
    clear h4
    go_wp2_with fail
    go_ret
    exact HG.out 2 HW.out _ B2.out
   ·have h4':¬(4096:Int)<(n:Int):=by omega
    by_cases h3:3000<sn
    ·have h3':(3000:Int)<(sn:Int):=by omega
     have HW:Hid ((1:Int)=wrongN true true n sn cyc):=by show _=_;unfold wrongN;rw[if_neg (by simp;omega),if_pos h3]
     clear h3 h4
     go_wp2_with fail
     go_ret
     exact HG.out 1 HW.out _ B2.out
    ·have h3':¬(3000:Int)<(sn:Int):=by omega
     have HW:Hid ((if d=true then 0 else 3:Int)=wrongN true true n sn cyc):=by
      have e:wrongN true true n sn cyc=if¬(0≤cyc∧cyc≤6000)then 3 else 0:=by unfold wrongN;rw[if_neg (by simp;omega),if_neg h3]
      show _=_
      rw[e,HD.out]
      by_cases hc:0≤cyc∧cyc≤6000
      ·rw[decide_eq_true hc,if_pos rfl,if_neg (fun h=>h hc)]
      ·rw[decide_eq_false hc,if_neg (by simp),if_pos hc]
     clear h3 h4 HD
     go_wp2_with fail
     refine(C3 _).mono ?_
     rintro e V3 ⟨rfl,hk3⟩
     subst hk3
     clear C3
     cases d with
     |true=>
      go_wp2_with fail
      go_ret
      exact HG.out 0 HW.out _ B2.out
     |false=>
      go_wp2_with fail
      go_ret
      exact HG.out 3 HW.out _ B2.out
end Go.Proofs.YtpiohehijkpghacGreatDoor.Co
