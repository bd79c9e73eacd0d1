/- A core's arguments of a law. -/
import Derived.Lib.LaidTab
import Derived.Deep.DeepHandedRow
import Derived.Test.YtpiohehijkpghacGreatDoorD29
open Array renaming getElem?_eq_some_iff->Aa,length_toList->Ad,getElem?_toList->Ag,toArray_toList->Am
open Go renaming cell_of_row->WZ,wpList_load_row->Ah,wpList_store_row->Ak,wpList_load_mid->WY,bodyPost_ret->Aq
open Go.Code renaming wp->Au
open Go.DataW renaming trod->Af
open Go.Instr renaming index->Ar
open Go.RowKit.Below renaming refl->Ao
open Go.Value renaming int->An,slice->Ax
open List renaming getElem?_drop->Ai,getElem?_eq_getElem->Aj,length_map->WX,append_nil->WW,range->Av
open Nat renaming le_refl->Ae,le_trans->Ap,zero_add->Aw
open Option.some renaming inj->Ab
set_option maxHeartbeats 6000000
set_option maxRecDepth 100000
set_option linter.unusedSimpArgs false
set_option linter.unusedVariables false
open Go.Proofs.Tryz
namespace Go.Proofs.YtpiohehijkpghacGreatDoor.Co
open Go.RowKit
open Hy
open Wi Od Re.Hy
open Gu.Hy (Tb tcs)
theorem zbn{P:Program}{ops:Array Oper}{rest:List Oper}{o:Oper}{a:Act}{w:World}{Q:Exit->Act->World->Prop}(hg:o.guard=none)(t:TypeId)(i0 i1 i2 i3:Nat)(x0 x1 x2 x3:Operand)(ho:o.op=.build t #[(i0,x0),(i1,x1),(i2,x2),(i3,x3)])
  (v0 v1 v2 v3:Value) (e0:a.eval x0=v0) (e1:a.eval x1=v1) (e2:a.eval x2=v2) (e3:a.eval x3=v3) (cells:Array Value)
  (hb:P.built t [(i0,v0),(i1,v1),(i2,v2),(i3,v3)]=some cells)
  (h:wpList P ops Q rest (a.put o.dst (.agg cells)) w):wpList P ops Q (o::rest) a w:=
 qC hg t _ ho cells (by simp[e0,e1,e2,e3,hb]) h
theorem zfL:(prog.info? 25).map (·.size)=some 32:=by kernel_rfl
theorem zia{w:World}{mp:Option Addr}{n mc:Nat}{f:Nat->Int}(hM:LC w mp n mc 1 (bcs f n))(hn:n<=4096)(hf:∀i,i<n->0<=f i/\f i<=255)(W:World)(hW:Below w.heap.size w W)(q:Nat)(hq:q<W.heap.size)(k0:W.cell? ⟨q,0,none⟩=some (.slice mp n mc)):
  Calls prog 27 #[.slice (some ⟨q,0,none⟩) 1 1] W fun e w'=>(∃a c,e=.returned (.slice a n c)/\Bys w' a n c f/\FarC W.heap.size a)/\Below W.heap.size W w':=by
 refine(zdz q mp n mc (bcs f n) (by omega) W hq k0 (hM.below (Ae _) hW)).mono ?_
 rintro e w' ⟨⟨v,rfl,ho⟩,hb⟩
 obtain⟨a,c,rfl,h1,h2⟩:=zaA ho hn hf
 exact⟨⟨a,c,rfl,h1,h2⟩,hb⟩
theorem xU{B:Nat}{w V V':World}{b:Nat}(h:Below B w V)(hB:B<=V.heap.size)(g:V.grownBy V' (some b))(hb:B<=b):Below B w V':=
 ⟨g.os.trans h.os,g.tape.trans h.tape,g.output.trans h.output,Ap h.size g.size,fun k hk=>(g.block k (by omega) (fun e=>by have:=Ab e;omega)).trans (h.block k hk)⟩
theorem zjU:(prog.info? 24).map (·.size)=some 1:=by kernel_rfl
theorem zmx(Q:Array Value)(k:Nat)(hk:k<32)(v:Value)(h:Q[k]?=some v)(w:World):(Ar 25 (.agg Q) (.int .i64 (k:Int))).run prog w=.ok v w:=by
 have hsz:(sizeOf 24).run prog w=.ok 1 w:=by
  have:=zjU
  cases hq:prog.info? 24 with
  |none=>rw[hq]at this;cases this
  |some i=>rw[hq]at this;simp at this;simp[sizeOf,typeInfo,hq,this]
 simp[Ar,asIntOf,run_underlying underlying25,hsz,part,h,run_underlying underlying24,isAgg]
 intro h2
 omega
theorem zjV{w:World}{a:Option Addr}{P c:Nat}(h:Re.Lie w a (P-32) c (fun i=>32+(i:Int))):Re.Lie w a ((Av (P-32)).map (fun i:Nat=>32+(i:Int))).length c (fun i=>((Av (P-32)).map (fun i:Nat=>32+(i:Int))).getD i 0):=by
 rw[WX,List.length_range]
 refine h.congr fun i hi=>?_
 rw[List.getD_eq_getElem?_getD,List.getElem?_map,List.getElem?_range hi]
 rfl
theorem zox{P:Int}(hP:33<=P)(v:Value):rowOf (mat P (Re.rg P.toNat) v) 34=rowOf (mat P (fun i=>(i:Int)) v) 34:=qk fun i hi=>by
 unfold mat
 split
 ·rfl
 ·split
  ·unfold Re.rg
   rw[if_pos (by omega)]
  ·rfl
theorem zfM{N:Nat}{w:World}(hN:N<=w.heap.size)(g1:0<N)(g2:2<N)(tb:Tab w)(tb2:Tab2 w)(win phys wide:Int)(p0:33<=phys)(p1:phys<=96)(R:Nat->Int)(pc st ca:Int)(mp:Option Addr)(n mc:Nat)(f:Nat->Int)(hM:LC w mp n mc 1 (bcs f n))(hn:n<=4096)(hf:∀i,i<n->0<=f i/\f i<=255)(sp:Option Addr)(sc:Nat)(scr:List Int)(hS:LC w sp scr.length sc 1 (ics scr)):
  Calls prog 12 #[.agg #[.int .i64 win,.int .i64 phys,.int .i64 wide],.agg (rowOf (hat R pc st ca) 35),.slice mp n mc,.slice sp scr.length sc] w fun e w'=>(∃b L,e=.returned (.pointer (some ⟨b,0,none⟩))/\St N w' b (begin win phys wide n R pc st ca f scr) L/\∀g,own b L g->w.heap.size<=g)/\Below w.heap.size w w':=by
 obtain⟨H,hH⟩:∃H,H=rowOf (hat R pc st ca) 35:=⟨_,rfl⟩
 rw[<-hH]
 have HH:Hid (H=rowOf (hat R pc st ca) 35):=hH
 have h32:H[32]?=some (.int .u32 pc):=by rw[hH];exact zu _ (by omega)
 have HHI:Hid (H.size=35/\(prog.info? 27).map (·.size)=some H.size/\H.all (·.oneCell')=true):=by rw[hH];exact⟨zf _ _,by rw[zf];exact zp,zcq _ _ _ _⟩
 obtain⟨X,hX⟩:∃X,X=rowOf (xI win phys wide pc (.slice sp scr.length sc)) 339:=⟨_,rfl⟩
 have HX:Hid (X=rowOf (xI win phys wide pc (.slice sp scr.length sc)) 339):=hX
 have HBX:Hid (prog.built 66 [(0,.agg #[.int .i64 win,.int .i64 phys,.int .i64 wide]),(9,.slice sp scr.length sc),(10,.int .u32 pc),(11,.bool true)]=some X):=by rw[hX];exact zfK win phys wide pc sp scr.length sc
 have HA:Hid (N<=w.heap.size/\Tab w/\Tab2 w/\LC w mp n mc 1 (bcs f n)/\LC w sp scr.length sc 1 (ics scr)):=⟨hN,tb,tb2,hM,hS⟩
 have hs35:H.size=35:=HHI.out.1
 obtain⟨sn,hsn⟩:∃sn,sn=scr.length:=⟨_,rfl⟩
 rw[<-hsn]at HX HBX HA hS⊢
 have HSN:Hid (sn=scr.length):=hsn
 clear hH hX hN tb tb2 hM hS hsn
 go_enter func12,ntmps12
 go_upto_region 1 with fail
 refine Wi.jl (Φ:=fun W=>Au _ _ _ _ W) ?_
 intro V e1 e2 hb hsz
 have HQ:Hid (V.heap[w.heap.size+1]?=some (.cells H 27 (0,0))):=e2
 have k0:V.cell? ⟨w.heap.size,0,none⟩=some (.int .i64 win):=by rw[WZ _ _ _ _ _ _ e1];rfl
 have k1:V.cell? ⟨w.heap.size,1,none⟩=some (.int .i64 phys):=by rw[WZ _ _ _ _ _ _ e1];rfl
 have k2:V.cell? ⟨w.heap.size,2,none⟩=some (.int .i64 wide):=by rw[WZ _ _ _ _ _ _ e1];rfl
 have kh:V.cell? ⟨w.heap.size+1,32,none⟩=some (.int .u32 pc):=by rw[WZ _ _ _ _ _ _ e2];exact h32
 have HB:Hid (Below w.heap.size w V):=hb
 have hqV:w.heap.size+1<V.heap.size:=by omega
 clear e1 e2 hb hsz
 obtain⟨h,hh⟩:∃h,h=w.heap.size+1:=⟨_,rfl⟩
 obtain⟨q,hq⟩:∃q,q=w.heap.size:=⟨_,rfl⟩
 rw[<-hh]at HQ kh hqV⊢
 rw[<-hq]at k0 k1 k2⊢
 have HQW:Hid (q=w.heap.size/\h=w.heap.size+1):=⟨hq,hh⟩
 clear hq hh
 go_upto_region 2 with(refine zbn rfl 66 0 9 10 11 _ _ _ _ rfl (.agg #[.int .i64 win,.int .i64 phys,.int .i64 wide]) (.slice sp sn sc) (.int .u32 pc) (.bool true) rfl rfl rfl rfl X HBX.out ?_)
 refine Wi.zj (Φ:=fun W=>Au _ _ _ _ W) ?_
 intro V1 r1 hb1
 have hbw:w.heap.size+2<=V.heap.size:=by have:=HQW.out;omega
 have HB1:Hid (Below w.heap.size w V1):=HB.out.trans (hb1.mono HB.out.size)
 have R1:Hid (V1.heap[h]?=some (.cells H 27 (0,0))):=(hb1.block h hqV).trans HQ.out
 have hb1s:V.heap.size<V1.heap.size:=(Aa.1 r1).1
 rw[HX.out]at r1
 obtain⟨b,hbb⟩:∃b,b=V.heap.size:=⟨_,rfl⟩
 rw[<-hbb]at r1 hbw hb1s hqV⊢
 have ROW1:Hid (V1.heap[b]?=some (.cells (rowOf (xI win phys wide pc (.slice sp sn sc)) 339) 66 (0,0))):=r1
 have CCo:Hid (∀W q,Below w.heap.size w W->q<W.heap.size->W.cell? ⟨q,0,none⟩=some (.slice mp n mc)->Calls prog 27 #[.slice (some ⟨q,0,none⟩) 1 1] W fun e w'=>(∃a c,e=.returned (.slice a n c)/\Bys w' a n c f/\FarC W.heap.size a)/\Below W.heap.size W w'):=fun W q hW hq k0=>zia HA.out.2.2.2.1 hn hf W hW q hq k0
 have hhb:h≠b:=by omega
 have RG:Hid (V1.rangeAt h 0 H.toList):=fun j v hj=>by rw[WZ _ _ _ _ _ _ R1.out,Aw,<-Ag];exact hj
 have HHL:Hid ((prog.info? 27).map (·.size)=some H.toList.length):=by show _=_;rw[Ad];exact HHI.out.2.1
 clear hb1 r1 hbb HB HQ HX HBX k0 k1 k2 kh h32 hs35
 refine zq (S:=fun w'=>w'.rangeAt h 0 (H.toList)) [9,13] (by kernel_rfl) (RG.out) (fun hH=>?_)
 refine tU 0 (.pointer (some ⟨b,0,none⟩)) ?_;go_simp
 refine tU 1 (.pointer (some ⟨b,0,none⟩)) ?_;go_simp
 refine tS 2 (.agg (H.toList).toArray) rfl (yieldsIf_load_mid (by rfl) 27 _ rfl _ _ rfl (H.toList) _ (fun wz hSw=>hSw) underlying27 rfl HHL.out) hH ?_;go_simp
 refine tU 3 (.slice mp n mc) ?_;go_simp
 refine zC 4 rfl (fun K hK=>?_)
 go_simp
 refine hK.out _ _ (zcd _ (hH)) (fun hN=>?_)
 clear hK K hH
 have hH:=hN
 clear hN
 try go_simp
 refine zC 5 rfl (fun K hK=>?_)
 go_simp
 refine(CCo.out _ V1.heap.size (HB1.out.drew.alloc HB1.out.size _) (by simp) (jO (w:=V1.drew) (cs:=[.slice mp n mc]) 0 _ rfl)).mono ?_
 rintro e V2 ⟨⟨ma,mc2,rfl,hB2,hF2⟩,hk2⟩
 have HK2:Hid (Below V1.heap.size V1 V2):=(((Ao _ V1).drew).alloc (Ae _) _).trans (hk2.mono (by simp))
 have HBY:Hid (Bys V2 ma n mc2 f/\∀x,ma=some x->V1.heap.size<=x.block):=⟨hB2,fun x hx=>by have:=hF2 x hx;simp at this;omega⟩
 clear hB2 hF2
 go_wp2_with fail
 refine hK.out _ _ (xg hk2 hH) (fun hN=>?_)
 clear hK K hH
 have hH:=hN
 clear hN
 try go_simp
 have ROW2:Hid (V2.heap[b]?=some (.cells (rowOf (xI win phys wide pc (.slice sp sn sc)) 339) 66 (0,0))):=(HK2.out.block b hb1s).trans ROW1.out
 have ROW3:Hid ((V2.setCells b 4 H.toList).heap[b]?=some (.cells (rowOf (ups (xI win phys wide pc (.slice sp sn sc)) 4 35 (hat R pc st ca)) 339) 66 (0,0))):=by
  have h3:=zba H.toList (w:=V2) (o:=4) (b:=b) (n:=339) (hat R pc st ca) (fun j u hj=>by
   rw[HH.out,Ag]at hj
   have hj35:j<35:=by have:=(Aa.1 hj).1;rw[zf]at this;exact this
   rw[zu _ hj35]at hj
   exact(Ab hj).symm) ROW2.out
  rw[Ad,HHI.out.1]at h3
  exact h3
 have cA:(V2.setCells b 4 H.toList).cell? ⟨b,39,none⟩=some (.slice none 0 0):=(zd ROW3.out (by omega)).trans rfl
 have fA:(V2.setCells b 4 H.toList).frozen? ⟨b,39,none⟩=false:=frozen_of_row _ _ _ _ _ ROW3.out
 refine tU 6 (.pointer (some ⟨b,0,none⟩)) ?_;go_simp
 refine tU 7 (.pointer (some ⟨b,3,none⟩)) ?_;go_simp
 refine tU 8 (.pointer (some ⟨b,4,none⟩)) ?_;go_simp
 refine zL 9 rfl (fun K hK=>?_)
 rw[if_pos (by rfl)]
 refine wp_store_mid 27 _ _ rfl b 4 (H) rfl rfl (by rw[HHI.out.1];exact xe ROW2.out (by omega)) (HHI.out.2.1) (HHI.out.2.2) ?_
 refine hK.out _ _ ?_
 clear hK K
 try go_simp
 refine tV 10 (.pointer (some ⟨b,0,none⟩)) rfl (fun h=>absurd h (by decide)) ?_;go_simp
 refine tV 11 (.pointer (some ⟨b,3,none⟩)) rfl (fun h=>absurd h (by decide)) ?_;go_simp
 refine tV 12 (.pointer (some ⟨b,39,none⟩)) rfl (fun h=>absurd h (by decide)) ?_;go_simp
 refine zL 13 rfl (fun K hK=>?_)
 go_simp
 refine hK.out _ _ ?_
 clear hK K
 try go_simp
 refine zE (by kernel_rfl) ?_ _
 have HG:Hid (V2.grownBy ((V2.setCells b 4 H.toList).setCell ⟨b,39,none⟩ (.slice ma n mc2)) (some b)):=zB (zD _ _ _ _) (zZ _ _ _ _)
 have ROW4:Hid (((V2.setCells b 4 H.toList).setCell ⟨b,39,none⟩ (.slice ma n mc2)).heap[b]?=some (.cells (rowOf (upf (ups (xI win phys wide pc (.slice sp sn sc)) 4 35 (hat R pc st ca)) 39 (.slice ma n mc2)) 339) 66 (0,0))):=zc9 ROW3.out
 generalize (V2.setCells b 4 H.toList).setCell ⟨b,39,none⟩ (.slice ma n mc2)=V4 at*
 have hHB2:=HB1.out.trans (HK2.out.mono HB1.out.size)
 have HB4:Hid (Below w.heap.size w V4):=xU hHB2 hHB2.size HG.out (by omega)
 have HBY4:Hid (Bys V4 ma n mc2 f):=xz HBY.out.1 fun h0 x hx=>HG.out.block _ (by
  obtain⟨g,o,e,hl⟩:=HBY.out.1.hm h0
  rw[hx]at e
  cases e
  exact World.block_lt_of_cell? _ _ (hl 0 h0)) (fun e=>by have:=HBY.out.2 x hx;have:=Ab e;omega)
 have R4:Hid (V4.heap[h]?=some (.cells H 27 (0,0))):=(HG.out.block h (by have:=HK2.out.size;omega) (fun e=>hhb (Ab e))).trans ((HK2.out.block h (by omega)).trans R1.out)
 have hb4:b<V4.heap.size:=(Aa.1 ROW4.out).1
 have HMA:Hid (∀x,ma=some x->x.block≠b):=fun x hx e=>by have:=HBY.out.2 x hx;omega
 clear hHB2 HG ROW3 ROW2 ROW1 HBY HB1 R1 RG hH cA fA HK2 HHL hb1s hqV hhb
 have k1:V4.cell? ⟨b,1,none⟩=some (.int .i64 phys):=(zd ROW4.out (by omega)).trans rfl
 have CN:Hid (Calls prog 28 #[.int .i64 phys] V4 fun e w'=>(∃a' c',e=.returned (.tuple #[.agg (rowOf (mat phys (fun i=>(i:Int)) (.slice a' (phys.toNat-32) c')) 34),.int .i64 0])/\Re.Lie w' a' (phys.toNat-32) c' (fun i=>32+(i:Int))/\Re.Far V4.heap.size a')/\Below V4.heap.size V4 w'):=by
  refine(Re.ziV phys p0 p1 V4).mono ?_
  rintro e w' ⟨⟨a',c',h1,h2,h3⟩,h4⟩
  rw[xP,zox p0]at h1
  exact⟨⟨a',c',h1,h2,h3⟩,h4⟩
 go_wp2_with fail
 refine CN.out.mono ?_
 rintro e V5 ⟨⟨a',c',rfl,hL5,hF5⟩,hk5⟩
 have ROW5:Hid (V5.heap[b]?=some (.cells (rowOf (upf (ups (xI win phys wide pc (.slice sp sn sc)) 4 35 (hat R pc st ca)) 39 (.slice ma n mc2)) 339) 66 (0,0))):=(hk5.block b hb4).trans ROW4.out
 have HB5:Hid (Below w.heap.size w V5):=HB4.out.trans (hk5.mono HB4.out.size)
 have ITS:Hid (Its N V5 b (bg win phys wide n R pc st ca f scr 0) (bgL (.slice ma n mc2) (.slice a' (phys.toNat-32) c') (.slice sp sn sc))):=by
  have hown:∀g,own b (bgL (.slice ma n mc2) (.slice a' (phys.toNat-32) c') (.slice sp sn sc)) g->g=b:=fun g hg=>by
   rcases hg with h|h|h|h
   ·exact h
   ·cases h
   ·cases h
   ·cases h
  have us0:∀e size,Us V5 e size (.slice none 0 0) 0 []:=fun e size=>⟨by simp,fun u hu=>(by cases hu),.inl ⟨rfl,rfl⟩⟩
  refine⟨us0 _ _,us0 _ _,us0 _ _,⟨ma,mc2,rfl,HBY4.out.below hk5⟩,⟨a',c',?_,zjV hL5⟩,⟨none,0,rfl,vb V5 2⟩,⟨sp,sc,?_,?_⟩,fun g hg _ ho=>?_,fun g hg _ ho=>?_,fun g hg h0=>absurd h0 (by show¬0<0;omega),fun g hg h0 ho=>?_,fun g ho=>?_,?_,?_,g1,g2,Ap HA.out.1 HB5.out.size⟩
  ·show Ax a' (phys.toNat-32) c'=.slice a' ((Av (phys.toNat-32)).map (fun i:Nat=>32+(i:Int))).length c'
   rw[WX,List.length_range]
  ·show Ax sp sn sc=.slice sp scr.length sc
   rw[HSN.out]
  ·show LC V5 sp scr.length sc 1 (ics scr)
   rw[<-HSN.out]
   exact HA.out.2.2.2.2.below (Ae _) HB5.out
  ·have e:=hown g ho
   subst e
   cases ma with
   |none=>cases hg
   |some x=>exact HMA.out x rfl (Ab hg)
  ·have e:=hown g ho
   subst e
   cases a' with
   |none=>cases hg
   |some x=>have:=hF5 x rfl;have:x.block=g:=Ab hg;omega
  ·have e:=hown g ho
   subst e
   have h0':0<sn:=by rw[HSN.out];exact h0
   cases sp with
   |none=>cases hg
   |some x=>
    obtain⟨g',o',e',hlt,_⟩:=HA.out.2.2.2.2.ad x rfl h0'
    subst e'
    have:g'=g:=Ab hg
    omega
  ·rw[hown g ho]
   have:=HA.out.1
   omega
  ·exact HA.out.2.1.below HB5.out (by have:=HA.out.1;omega)
  ·exact HA.out.2.2.1.below HB5.out (by have:=HA.out.1;omega)
 have S6:Hid (St N (V5.setCells b 107 (rowOf (mat phys (fun i=>(i:Int)) (.slice a' (phys.toNat-32) c')) 34).toList) b (bg win phys wide n R pc st ca f scr 0) (bgL (.slice ma n mc2) (.slice a' (phys.toNat-32) c') (.slice sp sn sc))):=St.cells ROW5.out ITS.out 107 (fun j hj=>zow win phys wide n R pc st ca f scr _ _ _ j hj)
 have HOW:Hid (∀g,own b (bgL (.slice ma n mc2) (.slice a' (phys.toNat-32) c') (.slice sp sn sc)) g->g=b):=fun g hg=>by
  rcases hg with h|h|h|h
  ·exact h
  ·cases h
  ·cases h
  ·cases h
 have HG6:=zD V5 b 107 (rowOf (mat phys (fun i=>(i:Int)) (.slice a' (phys.toNat-32) c')) 34).toList
 have HB6:Hid (Below w.heap.size w (V5.setCells b 107 (rowOf (mat phys (fun i=>(i:Int)) (.slice a' (phys.toNat-32) c')) 34).toList)):=xU HB5.out HB5.out.size HG6 (by omega)
 have R6:Hid ((V5.setCells b 107 (rowOf (mat phys (fun i=>(i:Int)) (.slice a' (phys.toNat-32) c')) 34).toList).heap[h]?=some (.cells H 27 (0,0))):=(HG6.block h (by have:=hk5.size;have:=(Aa.1 R4.out).1;omega) (fun e=>by have:=Ab e;have:=HQW.out;omega)).trans ((hk5.block h (Aa.1 R4.out).1).trans R4.out)
 have HTH:Hid (V5.there b 107 (rowOf (mat phys (fun i=>(i:Int)) (.slice a' (phys.toNat-32) c')) 34).size):=by rw[zf];exact xe ROW5.out (by omega)
 have HSZ:Hid ((prog.info? 59).map (·.size)=some (rowOf (mat phys (fun i=>(i:Int)) (.slice a' (phys.toNat-32) c')) 34).size):=by have:=jb phys (fun i=>(i:Int)) (.slice a' (phys.toNat-32) c');rw[Ad]at this;exact this
 clear hL5 hF5 hk5 HG6 ROW5 ROW4 HB4 HB5 HBY4 R4 ITS HMA k1 CN hb4
 go_upto_region 4 with(refine wpList_store_mid rfl 59 _ _ rfl b 107 (rowOf (mat phys (fun i=>(i:Int)) (.slice a' (phys.toNat-32) c')) 34) rfl rfl HTH.out HSZ.out (kv _ _ _ _ _) ?_)
 clear HTH HSZ
 generalize V5.setCells b 107 (rowOf (mat phys (fun i=>(i:Int)) (.slice a' (phys.toNat-32) c')) 34).toList=V6 at*
 generalize bgL (.slice ma n mc2) (.slice a' (phys.toNat-32) c') (.slice sp sn sc)=L6 at*
 obtain⟨Q,hQ⟩:∃Q,Q=rowOf (fun i=>An .u32 (R i)) 32:=⟨_,rfl⟩
 have HQQ:Hid (Q=(rowOf (fun i=>An .u32 (R i)) 32).toList.toArray):=by show _=_;rw[hQ]
 have HQa:Hid (∀k,k<32->Q[k]?=some (.int .u32 (R k))):=fun k hk=>by rw[hQ];exact zu _ hk
 have hQs:Q.size=32:=by rw[hQ];exact zf _ _
 have RR:Hid (V6.rangeAt h 0 (rowOf (fun i=>An .u32 (R i)) 32).toList):=fun j v hj=>by
  have hj32:j<32:=by have:=(List.getElem?_eq_some_iff.1 hj).1;rw[Ad,zf]at this;exact this
  rw[Ag,zu _ hj32]at hj
  rw[WZ _ _ _ _ _ _ R6.out,Aw,HH.out,zu _ (by omega),<-hj]
  unfold hat
  rw[if_pos hj32]
 have HRS:Hid ((prog.info? 25).map (·.size)=some (rowOf (fun i=>An .u32 (R i)) 32).toList.length):=by show _=_;rw[Ad,zf];exact zfL
 clear hQ R6
 go_wp2_with(refine WY rfl 25 _ rfl h 0 rfl (rowOf (fun i=>An .u32 (R i)) 32).toList _ RR.out underlying25 rfl HRS.out ?_;rw[<-HQQ.out])
 go_loopw [45] (fun i wr=>∃k:Nat,k<=32/\i=.int .i64 (k:Int)/\Hid (St N wr b (bg win phys wide n R pc st ca f scr k) L6/\Below w.heap.size w wr))
  (fun i _=>32-(intOf i).toNat)
 case atStart=>exact⟨0,by omega,rfl,S6.out,HB6.out⟩
 case round=>
  obtain⟨k,hk,rfl,S7,B7⟩:=hrel
  clear S6 HB6 RR
  by_cases hlt:k<32
  ·have hQk:=HQa.out k hlt
   have HS7:Hid (St N wr b (bg win phys wide n R pc st ca f scr k) L6):=S7
   have HB7:Hid (Below w.heap.size w wr):=B7
   have cr:wr.cell? ⟨b,108+k,none⟩=some (.int .i64 (k:Int)):=S7.reg k hlt
   have cw:=S7.wrd k (by omega)
   have ct:=S7.thr k (by omega)
   have fw:=S7.frozen (141+k)
   have ft:=S7.frozen (237+k)
   have k0:0<=(k:Int):=by omega
   have k1:(k:Int)<32:=by omega
   have k9:(k:Int)<96:=by omega
   have hidx:∀w,(Ar 25 (.agg Q) (.int .i64 (k:Int))).run prog w=.ok (.int .u32 (R k)) w:=zmx Q k hlt _ hQk
   clear S7 B7 hQk
   go_upto_region 8 with fail
   refine zq (S:=fun w'=>True) [8,12] (by kernel_rfl) (trivial) (fun hH=>?_)
   refine tU 0 (.pointer (some ⟨b,0,none⟩)) ?_;go_simp
   refine tU 1 (.int .i64 (k:Int)) ?_;go_simp
   refine tU 2 (.pointer (some ⟨b,0,none⟩)) ?_;go_simp
   refine tU 3 (.int .i64 (k:Int)) ?_;go_simp
   refine tU 4 (.int .u32 (R k)) ?_;go_simp
   refine tU 5 (.pointer (some ⟨b,0,none⟩)) ?_;go_simp
   refine tU 6 (.pointer (some ⟨b,141,none⟩)) ?_;go_simp
   refine tU 7 (.pointer (some ⟨b,141+k,none⟩)) ?_;go_simp
   refine tU 9 (.pointer (some ⟨b,0,none⟩)) ?_;go_simp
   refine tU 10 (.pointer (some ⟨b,237,none⟩)) ?_;go_simp
   refine zL 8 rfl (fun K hK=>?_)
   go_simp
   refine hK.out _ _ ?_
   clear hK K
   try go_simp
   refine tV 11 (.pointer (some ⟨b,237+k,none⟩)) rfl (fun h=>absurd h (by decide)) ?_;go_simp
   refine zL 12 rfl (fun K hK=>?_)
   go_simp
   refine hK.out _ _ ?_
   clear hK K
   try go_simp
   refine zE (by kernel_rfl) ?_ _
   obtain⟨s8,t8⟩:=HS7.out.setWd k (by omega) (R k)
   obtain⟨s9,t9⟩:=s8.setTh k (by omega) true
   rw[zpx]at s9
   have S9:Hid (St N ((wr.setCell ⟨b,141+k,none⟩ (.int .u32 (R k))).setCell ⟨b,237+k,none⟩ (.bool true)) b (bg win phys wide n R pc st ca f scr (k+1)) L6):=s9
   have HG9:=zB (zZ wr b (141+k) (.int .u32 (R k))) (zZ (wr.setCell ⟨b,141+k,none⟩ (.int .u32 (R k))) b (237+k) (.bool true))
   have B9:Hid (Below w.heap.size w ((wr.setCell ⟨b,141+k,none⟩ (.int .u32 (R k))).setCell ⟨b,237+k,none⟩ (.bool true))):=xU HB7.out HB7.out.size HG9 (by omega)
   clear s8 t8 s9 t9 HG9 hH cr cw ct fw ft HS7 HB7
   generalize (wr.setCell ⟨b,141+k,none⟩ (.int .u32 (R k))).setCell ⟨b,237+k,none⟩ (.bool true)=V9 at*
   go_wp2_with fail
   exact⟨⟨k+1,by omega,by go_num,S9.out.dr,B9.out.drew⟩,by simp[intOf];omega⟩
  ·have hk32:k=32:=by omega
   subst hk32
   rw[zov]at S7
   have HS7:Hid (St N wr b (begin win phys wide n R pc st ca f scr) L6):=S7
   have HB7:Hid (Below w.heap.size w wr):=B7
   clear S7 B7
   go_wp2_with fail
   go_ret
   exact⟨⟨b,L6,rfl,HS7.out,fun g hg=>by rw[HOW.out g hg];omega⟩,HB7.out⟩
def qi(a hm:Bool)(n sn:Nat)(cyc:Int):Int:=if a=false\/hm=false\/4096<n then 2 else if 3000<sn then 1 else if¬(0<=cyc/\cyc<=6000)then 3 else 0
theorem zaB(win phys wide:Int)(H:Array Value)(hm:Bool)(HH:Hid ((prog.info? 27).map (·.size)=some H.size))(CM:Hid (∀W,Calls prog 25 #[.agg H] W fun e w'=>e=.returned (.bool hm)/\Below W.heap.size W w'))(mp:Option Addr)(n mc:Nat)(sp:Option Addr)(sn sc:Nat)(cyc:Int)(hn:n<=140737488355328)(hsn:sn<=140737488355328)(w:World):
  Calls prog 11 #[.agg #[.int .i64 win,.int .i64 phys,.int .i64 wide],.agg H,.slice mp n mc,.slice sp sn sc,.int .i64 cyc] w fun e w'=>e=.returned (.int .i64 (qi (mayC win phys wide) hm n sn cyc))/\Below w.heap.size w w':=by
 have C1:=fun W=>zen win phys wide W
 have C3:=fun W=>jW cyc 0 6000 W
 obtain⟨a,ha⟩:∃a,a=mayC win phys wide:=⟨_,rfl⟩
 rw[<-ha]at C1⊢
 obtain⟨d,hd⟩:∃d,d=decide (0<=cyc/\cyc<=6000):=⟨_,rfl⟩
 rw[<-hd]at C3
 have HD:Hid (d=decide (0<=cyc/\cyc<=6000)):=hd
 clear ha hd
 go_enter func11,ntmps11
 go_upto_region 1 with fail
 refine Wi.jl (Φ:=fun W=>Au _ _ _ _ W) ?_
 intro V e1 e2 hb hsz
 have HQ:Hid (V.heap[w.heap.size+1]?=some (.cells H 27 (0,0))):=e2
 have k0:V.cell? ⟨w.heap.size,0,none⟩=some (.int .i64 win):=by rw[WZ _ _ _ _ _ _ e1];rfl
 have k1:V.cell? ⟨w.heap.size,1,none⟩=some (.int .i64 phys):=by rw[WZ _ _ _ _ _ _ e1];rfl
 have k2:V.cell? ⟨w.heap.size,2,none⟩=some (.int .i64 wide):=by rw[WZ _ _ _ _ _ _ e1];rfl
 have HB:Hid (Below w.heap.size w V):=hb
 have hqV:w.heap.size+1<V.heap.size:=by omega
 clear e1 e2 hb hsz
 obtain⟨h,hh⟩:∃h,h=w.heap.size+1:=⟨_,rfl⟩
 obtain⟨q,hq⟩:∃q,q=w.heap.size:=⟨_,rfl⟩
 rw[<-hh]at HQ hqV⊢
 rw[<-hq]at k0 k1 k2
 have hgoal:∀e:Int,e=qi a hm n sn cyc->∀V':World,Below w.heap.size w V'->(Ending.returned (.int .i64 e)=.returned (.int .i64 (qi a hm n sn cyc))/\Below w.heap.size w V'):=fun e he V' hV=>⟨by rw[he],hV⟩
 have HG:Hid _:=hgoal
 rw[<-hq]
 have HQW:Hid (q=w.heap.size):=hq
 clear hq hh hgoal
 go_wp2_with fail
 refine(C1 _).mono ?_
 rintro e V1 ⟨rfl,hk1⟩
 have B1:Hid (Below w.heap.size w V1):=HB.out.trans (hk1.mono HB.out.size)
 have Q1:Hid (V1.heap[h]?=some (.cells H 27 (0,0))):=(hk1.block h hqV).trans HQ.out
 clear hk1 HB HQ C1 k0 k1 k2
 cases a with
 |false=>
  go_wp2_with fail
  go_ret
  exact HG.out 2 (by simp[qi]) _ B1.out
 |true=>
  go_wp2_with(refine Ah rfl 27 _ rfl _ rfl 27 _ (0,0) _ Q1.out underlying27 rfl HH.out ?_)
  refine(CM.out _).mono ?_
  rintro e V2 ⟨rfl,hk2⟩
  have B2:Hid (Below w.heap.size w V2):=B1.out.trans (hk2.mono B1.out.size)
  clear hk2 B1 Q1 CM
  cases hm with
  |false=>
   go_wp2_with fail
   go_ret
   exact HG.out 2 (by simp[qi]) _ B2.out
  |true=>
   by_cases h4:4096<n
   ·have h4':(4096:Int)<(n:Int):=by omega
    have HW:Hid ((2:Int)=qi true true n sn cyc):=by show _=_;unfold qi;rw[if_pos (.inr (.inr h4))]
    clear h4
    go_wp2_with fail
    go_ret
    exact HG.out 2 HW.out _ B2.out
   ·have h4':¬(4096:Int)<(n:Int):=by omega
    by_cases h3:3000<sn
    ·have h3':(3000:Int)<(sn:Int):=by omega
     have HW:Hid ((1:Int)=qi true true n sn cyc):=by show _=_;unfold qi;rw[if_neg (by simp;omega),if_pos h3]
     clear h3 h4
     go_wp2_with fail
     go_ret
     exact HG.out 1 HW.out _ B2.out
    ·have h3':¬(3000:Int)<(sn:Int):=by omega
     have HW:Hid ((if d=true then 0 else 3:Int)=qi true true n sn cyc):=by
      have e:qi true true n sn cyc=if¬(0<=cyc/\cyc<=6000)then 3 else 0:=by unfold qi;rw[if_neg (by simp;omega),if_neg h3]
      show _=_
      rw[e,HD.out]
      by_cases hc:0<=cyc/\cyc<=6000
      ·rw[decide_eq_true hc,if_pos rfl,if_neg (fun h=>h hc)]
      ·rw[decide_eq_false hc,if_neg (by simp),if_pos hc]
     clear h3 h4 HD
     go_wp2_with fail
     refine(C3 _).mono ?_
     rintro e V3 ⟨rfl,hk3⟩
     subst hk3
     clear C3
     cases d with
     |true=>
      go_wp2_with fail
      go_ret
      exact HG.out 0 HW.out _ B2.out
     |false=>
      go_wp2_with fail
      go_ret
      exact HG.out 3 HW.out _ B2.out
end Go.Proofs.YtpiohehijkpghacGreatDoor.Co
namespace Go.Proofs.YtpiohehijkpghacGreatDoor.Co
open Go.RowKit
open Hy
open Wi Od Re.Hy
open Gu.Hy (Tb tcs)
theorem vV{Φ:World->Prop}{w:World}{A B C:Obj}(h:∀W:World,W.heap[w.heap.size]?=some A->W.heap[w.heap.size+1]?=some B->W.heap[w.heap.size+2]?=some C->Below w.heap.size w W->w.heap.size+3<=W.heap.size->Φ W):Φ (((w.alloc A).alloc B).alloc C):=by
 refine h _ ?_ ?_ ?_ ((((Ao _ _).alloc (Ae _) _).alloc (by simp) _).alloc (by simp;omega) _) (by simp)
 ·rw[(((Ao ((w.alloc A).alloc B).heap.size ((w.alloc A).alloc B)).alloc (Ae _) C)).block w.heap.size (by simp;omega)]
  exact heap_alloc2_old _ _ _
 ·rw[(((Ao ((w.alloc A).alloc B).heap.size ((w.alloc A).alloc B)).alloc (Ae _) C)).block (w.heap.size+1) (by simp)]
  exact heap_alloc2_new _ _ _
 ·have:=heap_alloc_new ((w.alloc A).alloc B) C
  simpa using this
def zsh(i:Nat):Value:=if i=0 then .slice none 0 0 else if i<34 then .int .u32 0 else if i<36 then .int .i64 0 else if i=36 then .slice none 0 0 else .int .i64 0
theorem zcs:prog.built 32 []=some (rowOf zsh 40):=by kernel_rfl
theorem qo:(prog.info? 32).map (·.size)=some 40:=by kernel_rfl
theorem zdA(i:Nat):(zsh i).oneCell'=true:=by
 unfold zsh
 split
 ·rfl
 ·split
  ·rfl
  ·split
   ·rfl
   ·split<;>rfl
theorem zib:∀(j:Nat) (x:Int),(rowOf zsh 40)[j]?≠some (.int .u8 x:Value):=fun j x h=>by
 have hj:j<40:=by have:=(Aa.1 h).1;rw[zf]at this;exact this
 rw[zu _ hj]at h
 have h:=Ab h
 unfold zsh at h
 split at h
 ·cases h
 ·split at h
  ·cases h
  ·split at h
   ·cases h
   ·split at h<;>cases h
theorem kF{w:World}{g k:Nat}{Y:Array Value}(h:k≠g):(w.setRow g Y).heap[k]?=w.heap[k]?:=setRow_other w g k _ h
def shw(s:Cr)(L:Sls)(i:Nat):Value:=kat s L (3+i)
theorem St.shown{N:Nat}{w:World}{b:Nat}{s:Cr}{L:Sls}(S:St N w b s L):w.rangeAt b 3 (rowOf (shw s L) 40).toList:=jx S.row (by omega) (fun j _=>rfl)
theorem zkC{w:World}{e size:Nat}{v:Value}{n:Nat}{xs:List Value}(h:Us w e size v n xs):v.oneCell'=true:=by
 obtain⟨p,c,rfl⟩:=h.slice
 rfl
theorem St.shown_ones{N:Nat}{w:World}{b:Nat}{s:Cr}{L:Sls}(S:St N w b s L):(rowOf (shw s L) 40).all (·.oneCell')=true:=ja _ _ fun i hi=>by
 show(kat s L (3+i)).oneCell'=true
 by_cases h0:i=0
 ·subst h0
  exact zkC S.its.ic
 ·by_cases h1:i<36
  ·have e:kat s L (3+i)=hat s.R s.pc s.st s.ca (i-1):=by rw[show 3+i=4+(i-1) by omega];exact zda s L (i-1) (by omega)
   rw[e]
   exact zbe _ _ _ _ _
  ·rcases(by omega:i=36\/i=37\/i=38\/i=39)with rfl|rfl|rfl|rfl
   ·obtain⟨p,c,e,_⟩:=S.its.im
    show L.m.oneCell'=true
    rw[e];rfl
   ·rfl
   ·rfl
   ·rfl
theorem zbo{P:Program}{ops:Array Oper}{rest:List Oper}{o:Oper}{a:Act}{w:World}{Q:Exit->Act->World->Prop}(hg:o.guard=none)(t:TypeId)(ho:o.op=.build t #[])(cells:Array Value)
  (hb:P.built t []=some cells)
  (h:wpList P ops Q rest (a.put o.dst (.agg cells)) w):wpList P ops Q (o::rest) a w:=
 qC hg t _ ho cells (by simp[hb]) h
theorem zeH{w V W:World}{b:Nat}{L L':Sls}(h:Below w.heap.size w V)(T:To b V L W L')(hb:∀g,own b L g->w.heap.size<=g):Below w.heap.size w W:=
 ⟨T.os.trans h.os,T.tape.trans h.tape,T.output.trans h.output,Ap h.size T.size,fun k hk=>(T.block k (Nat.lt_of_lt_of_le hk h.size) (fun ho=>by have:=hb k ho;omega)).trans (h.block k hk)⟩
theorem zic{M:Mc}{k:Nat}{s:Cr}(h:¬s.st=0):runN M k s=s:=by
 cases k with
 |zero=>rfl
 |succ k=>unfold runN;rw[if_neg h]
theorem zfN(win phys wide:Int)(H:Array Value)(hm:Bool)(HH:Hid ((prog.info? 27).map (·.size)=some H.size))(CM:Hid (∀W,Calls prog 25 #[.agg H] W fun e w'=>e=.returned (.bool hm)/\Below W.heap.size W w'))(mp:Option Addr)(n mc:Nat)(sp:Option Addr)(sn sc:Nat)(cyc:Int)(hn:n<=140737488355328)(hsn:sn<=140737488355328)(w:World)(CODE:qi (mayC win phys wide) hm n sn cyc≠0):
  Calls prog 6 #[.agg #[.int .i64 win,.int .i64 phys,.int .i64 wide],.agg H,.slice mp n mc,.slice sp sn sc,.int .i64 cyc] w fun e w'=>e=.returned (.tuple #[.agg (rowOf zsh 40),.int .i64 (qi (mayC win phys wide) hm n sn cyc)])/\Below w.heap.size w w':=by
 obtain⟨cd,hcd⟩:∃c,c=qi (mayC win phys wide) hm n sn cyc:=⟨_,rfl⟩
 rw[<-hcd]
 have HCD:Hid (cd=qi (mayC win phys wide) hm n sn cyc):=hcd
 clear hcd
 have CW:=fun W=>zaB win phys wide H hm HH CM mp n mc sp sn sc cyc hn hsn W
 obtain⟨code,hcode⟩:∃c,c=qi (mayC win phys wide) hm n sn cyc:=⟨_,rfl⟩
 rw[<-hcode]at CW CODE HCD
 clear hcode
 obtain⟨Z,hZ⟩:∃Z,Z=rowOf zsh 40:=⟨_,rfl⟩
 have HZ:Hid (prog.built 32 []=some Z):=by rw[hZ];exact zcs
 have HZI:Hid ((prog.info? 32).map (·.size)=some Z.size/\40=Z.size/\Z.all (·.oneCell')=true):=by rw[hZ];exact⟨by rw[zf];exact qo,(zf _ _).symm,ja _ _ fun i _=>zdA i⟩
 have HZZ:Hid (Z=rowOf zsh 40):=hZ
 clear hZ
 go_enter func6,ntmps6
 go_upto_region 1 with fail
 refine vV (Φ:=fun W=>Au _ _ _ _ W) ?_
 intro V e1 e2 e3 hb hsz
 have HQ:Hid (V.heap[w.heap.size+1]?=some (.cells H 27 (0,0))):=e2
 have HR0:Hid (∃cur,V.heap[w.heap.size+2]?=some (.cells cur 32 (0,0))/\cur.size=40/\∀(j:Nat) (x:Int),cur[j]?≠some (.int .u8 x:Value)):=⟨rowOf zsh 40,e3,zf _ _,zib⟩
 have k0:V.cell? ⟨w.heap.size,0,none⟩=some (.int .i64 win):=by rw[WZ _ _ _ _ _ _ e1];rfl
 have k1:V.cell? ⟨w.heap.size,1,none⟩=some (.int .i64 phys):=by rw[WZ _ _ _ _ _ _ e1];rfl
 have k2:V.cell? ⟨w.heap.size,2,none⟩=some (.int .i64 wide):=by rw[WZ _ _ _ _ _ _ e1];rfl
 have HB:Hid (Below w.heap.size w V):=hb
 have hqV:w.heap.size+2<V.heap.size:=by omega
 clear e1 e2 e3 hb hsz
 obtain⟨g,hg⟩:∃g,g=w.heap.size+2:=⟨_,rfl⟩
 obtain⟨h,hh⟩:∃h,h=w.heap.size+1:=⟨_,rfl⟩
 obtain⟨q,hq⟩:∃q,q=w.heap.size:=⟨_,rfl⟩
 rw[<-hg]at HR0 hqV⊢
 rw[<-hh]at HQ⊢
 rw[<-hq]at k0 k1 k2⊢
 have HQW:Hid (q=w.heap.size/\h=w.heap.size+1/\g=w.heap.size+2):=⟨hq,hh,hg⟩
 clear hq hh hg
 go_wp2_with(refine Ah rfl 27 _ rfl _ rfl 27 _ (0,0) _ HQ.out underlying27 rfl HH.out ?_)
 refine(CW _).mono ?_
 rintro e V1 ⟨rfl,hk1⟩
 have B1:Hid (Below w.heap.size w V1):=HB.out.trans (hk1.mono HB.out.size)
 have Q1:Hid (V1.heap[h]?=some (.cells H 27 (0,0))):=(hk1.block h (by have:=HQW.out;omega)).trans HQ.out
 obtain⟨cur,hcur,hcs,hc8⟩:=HR0.out
 have HC8:Hid (∀(j:Nat) (x:Int),cur[j]?≠some (.int .u8 x:Value)):=hc8
 clear hc8
 have R1:Hid (V1.heap[g]?=some (.cells cur 32 (0,0))):=(hk1.block g hqV).trans hcur
 have HCS:Hid (40=cur.size):=hcs.symm
 have hc:=HCD.out
 subst hc
 have hne:(cd != 0)=true:=by simpa using CODE
 clear hk1 HB HQ HR0 hcur hcs CW k0 k1 k2 CM HCD
 go_wp2_with(first|(refine zbo rfl 32 rfl Z HZ.out ?_)|(refine Ak rfl 32 _ _ rfl _ _ rfl rfl 32 _ R1.out HZI.out.1 (HCS.out.symm.trans HZI.out.2.1) HZI.out.2.2 ?_))
 refine Aq (v:=.tuple #[.agg Z,.int .i64 cd]) (xA results6 _ _ _ 32 _ (0,0) _ _ rfl rfl (yf R1.out) underlying32 rfl HZI.out.1) rfl ⟨by rw[HZZ.out],below_setRow B1.out _ (by have:=HQW.out;omega)⟩
theorem zmy(win phys wide:Int)(H:Array Value)(hm:Bool)(HH:Hid ((prog.info? 27).map (·.size)=some H.size))(CM:Hid (∀W,Calls prog 25 #[.agg H] W fun e w'=>e=.returned (.bool hm)/\Below W.heap.size W w'))(mp:Option Addr)(n mc:Nat)(sp:Option Addr)(sn sc:Nat)(cyc:Int)(hn:n<=140737488355328)(hsn:sn<=140737488355328)(w:World)(R:Nat->Int)(pc st ca:Int)(hHr:H=rowOf (hat R pc st ca) 35)(CODE:qi (mayC win phys wide) hm n sn cyc=0)(tb:Tab w)(tb2:Tab2 w)(hR:∀i,i<32->U32 (R i))(hpc:U32 pc)(f:Nat->Int)(hM:LC w mp n mc 1 (bcs f n))(hf:∀i,i<n->0<=f i/\f i<=255)(scr:List Int)(hscr:scr.length=sn)(hS:LC w sp sn sc 1 (ics scr)):
  Calls prog 6 #[.agg #[.int .i64 win,.int .i64 phys,.int .i64 wide],.agg H,.slice mp n mc,.slice sp sn sc,.int .i64 cyc] w fun e w'=>(∃L:Sls,e=.returned (.tuple #[.agg (rowOf (shw (runN mach cyc.toNat (begin win phys wide n R pc st ca f scr)) L) 40),.int .i64 0])/\Us w' 68 11 L.c (runN mach cyc.toNat (begin win phys wide n R pc st ca f scr)).coms.length (flat cml (runN mach cyc.toNat (begin win phys wide n R pc st ca f scr)).coms)/\(∃p c,L.m=.slice p (runN mach cyc.toNat (begin win phys wide n R pc st ca f scr)).n c/\Bys w' p (runN mach cyc.toNat (begin win phys wide n R pc st ca f scr)).n c (runN mach cyc.toNat (begin win phys wide n R pc st ca f scr)).f)/\Gd mach ⟨R,pc,st,ca,f⟩ (runN mach cyc.toNat (begin win phys wide n R pc st ca f scr)))/\Below w.heap.size w w':=by
 have hC:=CODE
 unfold qi at hC
 have hw1:mayC win phys wide=true/\hm=true/\n<=4096:=by
  by_cases h:mayC win phys wide=false\/hm=false\/4096<n
  ·rw[if_pos h]at hC;omega
  ·refine⟨?_,?_,by omega⟩
   ·cases hx:mayC win phys wide with
    |true=>rfl
    |false=>exact absurd (.inl hx) h
   ·cases hx:hm with
    |true=>rfl
    |false=>exact absurd (.inr (.inl hx)) h
 rw[if_neg (by rw[hw1.1,hw1.2.1];simp;omega)]at hC
 have hsn3:¬3000<sn:=fun h=>by rw[if_pos h]at hC;omega
 rw[if_neg hsn3]at hC
 have hcy:0<=cyc/\cyc<=6000:=Classical.byContradiction fun h=>by rw[if_pos h]at hC;omega
 have hmy:(1<=win/\win<=32)/\(33<=phys/\phys<=96)/\(1<=wide/\wide<=4):=by
  have:=hw1.1
  unfold mayC at this
  simp at this
  omega
 have hn4:=hw1.2.2
 have G0:Hid (Gd mach ⟨R,pc,st,ca,f⟩ (begin win phys wide n R pc st ca f scr)):=zjG zM win phys wide n R pc st ca f scr hmy.1.1 hmy.1.2 hmy.2.1.1 hmy.2.1.2 hmy.2.2.1 hmy.2.2.2 hn4 hf hR hpc
 obtain⟨cy,hcyN⟩:∃cy:Nat,cyc=(cy:Int):=Int.eq_ofNat_of_zero_le hcy.1
 subst hcyN
 have hcy6:cy<=6000:=by omega
 have ecy:((cy:Nat):Int).toNat=cy:=Int.toNat_natCast cy
 rw[ecy]
 obtain⟨s0,hs0⟩:∃s0,s0=begin win phys wide n R pc st ca f scr:=⟨_,rfl⟩
 obtain⟨r,hr⟩:∃r,r=runN mach cy s0:=⟨_,rfl⟩
 have CBg:Hid (∀W,Below w.heap.size w W->Calls prog 12 #[.agg #[.int .i64 win,.int .i64 phys,.int .i64 wide],.agg H,.slice mp n mc,.slice sp sn sc] W fun e w'=>(∃b L,e=.returned (.pointer (some ⟨b,0,none⟩))/\St w.heap.size w' b s0 L/\∀g,own b L g->W.heap.size<=g)/\Below W.heap.size W w'):=fun W hW=>by
  rw[hHr,hs0,<-hscr]
  rw[<-hscr]at hS
  exact zfM hW.size tb.size tb2.size (tb.below hW tb.size) (tb2.below hW tb2.size) win phys wide hmy.2.1.1 hmy.2.1.2 R pc st ca mp n mc f (hM.below (Ae _) hW) hn4 hf sp sc scr (hS.below (Ae _) hW)
 rw[<-hs0]at G0⊢
 rw[<-hr]
 have HRR:Hid (runN mach cy s0=r):=hr.symm
 have hcyc0:Hid (s0.cyc=0):=by rw[hs0];rfl
 clear hC hw1 hsn3 hcy hmy hs0 hr ecy hHr tb tb2 hM hS hf hR hpc hscr
 have CW:=fun W=>zaB win phys wide H hm HH CM mp n mc sp sn sc (cy:Int) hn hsn W
 obtain⟨code,hcode⟩:∃c,c=qi (mayC win phys wide) hm n sn (cy:Int):=⟨_,rfl⟩
 rw[<-hcode]at CW CODE
 clear hcode
 obtain⟨Z,hZ⟩:∃Z,Z=rowOf zsh 40:=⟨_,rfl⟩
 have HZ:Hid (prog.built 32 []=some Z):=by rw[hZ];exact zcs
 have HZI:Hid ((prog.info? 32).map (·.size)=some Z.size/\40=Z.size/\Z.all (·.oneCell')=true):=by rw[hZ];exact⟨by rw[zf];exact qo,(zf _ _).symm,ja _ _ fun i _=>zdA i⟩
 have HZZ:Hid (Z=rowOf zsh 40):=hZ
 clear hZ
 go_enter func6,ntmps6
 go_upto_region 1 with fail
 refine vV (Φ:=fun W=>Au _ _ _ _ W) ?_
 intro V e1 e2 e3 hb hsz
 have HQ:Hid (V.heap[w.heap.size+1]?=some (.cells H 27 (0,0))):=e2
 have HR0:Hid (∃cur,V.heap[w.heap.size+2]?=some (.cells cur 32 (0,0))/\cur.size=40/\∀(j:Nat) (x:Int),cur[j]?≠some (.int .u8 x:Value)):=⟨rowOf zsh 40,e3,zf _ _,zib⟩
 have k0:V.cell? ⟨w.heap.size,0,none⟩=some (.int .i64 win):=by rw[WZ _ _ _ _ _ _ e1];rfl
 have k1:V.cell? ⟨w.heap.size,1,none⟩=some (.int .i64 phys):=by rw[WZ _ _ _ _ _ _ e1];rfl
 have k2:V.cell? ⟨w.heap.size,2,none⟩=some (.int .i64 wide):=by rw[WZ _ _ _ _ _ _ e1];rfl
 have HB:Hid (Below w.heap.size w V):=hb
 have hqV:w.heap.size+2<V.heap.size:=by omega
 clear e1 e2 e3 hb hsz
 obtain⟨g,hg⟩:∃g,g=w.heap.size+2:=⟨_,rfl⟩
 obtain⟨h,hh⟩:∃h,h=w.heap.size+1:=⟨_,rfl⟩
 obtain⟨q,hq⟩:∃q,q=w.heap.size:=⟨_,rfl⟩
 rw[<-hg]at HR0 hqV⊢
 rw[<-hh]at HQ⊢
 rw[<-hq]at k0 k1 k2⊢
 have HQW:Hid (q=w.heap.size/\h=w.heap.size+1/\g=w.heap.size+2):=⟨hq,hh,hg⟩
 clear hq hh hg
 go_wp2_with(refine Ah rfl 27 _ rfl _ rfl 27 _ (0,0) _ HQ.out underlying27 rfl HH.out ?_)
 refine(CW _).mono ?_
 rintro e V1 ⟨rfl,hk1⟩
 have B1:Hid (Below w.heap.size w V1):=HB.out.trans (hk1.mono HB.out.size)
 have Q1:Hid (V1.heap[h]?=some (.cells H 27 (0,0))):=(hk1.block h (by have:=HQW.out;omega)).trans HQ.out
 obtain⟨cur,hcur,hcs,hc8⟩:=HR0.out
 have HC8:Hid (∀(j:Nat) (x:Int),cur[j]?≠some (.int .u8 x:Value)):=hc8
 clear hc8
 have R1:Hid (V1.heap[g]?=some (.cells cur 32 (0,0))):=(hk1.block g hqV).trans hcur
 have HCS:Hid (40=cur.size):=hcs.symm
 subst CODE
 have k0':V1.cell? ⟨q,0,none⟩=some (.int .i64 win):=zn hk1 k0
 have k1':V1.cell? ⟨q,1,none⟩=some (.int .i64 phys):=zn hk1 k1
 have k2':V1.cell? ⟨q,2,none⟩=some (.int .i64 wide):=zn hk1 k2
 clear hk1 HB HQ HR0 hcur hcs CW CM k0 k1 k2
 go_wp2_with(refine Ah rfl 27 _ rfl _ rfl 27 _ (0,0) _ Q1.out underlying27 rfl HH.out ?_)
 refine(CBg.out _ B1.out).mono ?_
 rintro e V2 ⟨⟨b,L,rfl,u1,hbV⟩,hk2⟩
 have S2:Hid (St w.heap.size V2 b s0 L):=u1
 have B2:Hid (Below w.heap.size w V2):=B1.out.trans (hk2.mono B1.out.size)
 have R2:Hid (V2.heap[g]?=some (.cells cur 32 (0,0))):=(hk2.block g (Aa.1 R1.out).1).trans R1.out
 have hgL:¬own b L g:=fun ho=>by have:=hbV g ho;have:=(Aa.1 R1.out).1;omega
 have HGL:Hid (¬own b L g):=hgL
 clear u1 hk2 hgL CBg B1 Q1 R1 k0' k1' k2' hbV
 go_wp2_with fail
 go_loopw [30] (fun i wr=>∃k:Nat,k<=cy/\i=.int .i64 (k:Int)/\Hid (∃s' L',St w.heap.size wr b s' L'/\To b V2 L wr L'/\Gd mach ⟨R,pc,st,ca,f⟩ s'/\s'.cyc<=(k:Int)/\runN mach (cy-k) s'=r))
  (fun i _=>cy-(intOf i).toNat)
 case atStart=>exact⟨0,by omega,rfl,s0,L,S2.out,To.refl b V2 L,G0.out,by rw[hcyc0.out];exact Int.le_refl _,HRR.out⟩
 case round=>
  obtain⟨k,hk,rfl,s',L',S3,T3,G3,c3,R3⟩:=hrel
  have k37:wr.cell? ⟨b,37,none⟩=some (.int .i64 s'.st):=(zd S3.row (by omega)).trans rfl
  have HS3:Hid (St w.heap.size wr b s' L'):=S3
  have HT3:Hid (To b V2 L wr L'):=T3
  have HG3:Hid (Gd mach ⟨R,pc,st,ca,f⟩ s'/\s'.cyc<=(k:Int)/\runN mach (cy-k) s'=r):=⟨G3,c3,R3⟩
  clear S3 T3 G3 c3 R3 G0 HRR hcyc0
  by_cases hlt:k<cy
  ·by_cases h0:s'.st=0
   ·have k37':wr.cell? ⟨b,37,none⟩=some (.int .i64 0):=by rw[k37,h0]
    have CY:Hid (Calls prog 13 #[.pointer (some ⟨b,0,none⟩)] wr fun e w'=>e=.returned (.tuple #[])/\∃L'',St w.heap.size w' b (cycle mach s') L''/\To b wr L' w' L''):=zfI HS3.out HG3.out.1 h0 (by have:=HG3.out.2.1;omega)
    have HG4:Hid (Gd mach ⟨R,pc,st,ca,f⟩ (cycle mach s')/\(cycle mach s').cyc<=((k+1:Nat):Int)/\runN mach (cy-(k+1)) (cycle mach s')=r):=by
     have h6:s'.cyc<6000:=by have:=HG3.out.2.1;omega
     refine⟨zjF zM jE HG3.out.1 h0 h6,?_,?_⟩
     ·rw[(kU zM HG3.out.1.good h0 h6).2.1]
      have:=HG3.out.2.1
      push_cast
      omega
     ·have:=HG3.out.2.2
      obtain⟨j,hj⟩:∃j,cy-k=j+1:=⟨cy-k-1,by omega⟩
      rw[hj,runN,if_pos h0]at this
      rw[show cy-(k+1)=j by omega]
      exact this
    clear HG3 k37 h0
    go_wp2_with fail
    refine CY.out.mono ?_
    rintro e V4 ⟨rfl,L4,u4,t4⟩
    have S4:Hid (St w.heap.size V4 b (cycle mach s') L4):=u4
    have T4:Hid (To b V2 L V4 L4):=HT3.out.trans t4
    clear u4 t4 HS3 HT3 CY k37'
    go_wp2_with fail
    exact⟨⟨k+1,by omega,by go_num,_,L4,S4.out,T4.out,HG4.out.1,HG4.out.2.1,HG4.out.2.2⟩,by simp[intOf];omega⟩
   ·have hst:((s'.st:Int) != 0)=true:=by simpa using h0
    have HRS:Hid (s'=r):=by show _=_;rw[<-HG3.out.2.2,zic h0]
    have HGX:Hid (Gd mach ⟨R,pc,st,ca,f⟩ s'):=HG3.out.1
    clear HG3 h0
    have e:=HRS.out
    subst e
    have B3:Hid (Below w.heap.size w wr):=zeH B2.out HT3.out (fun g hg=>S2.out.its.base g hg)
    have R3:Hid (wr.heap[g]?=some (.cells cur 32 (0,0))):=(HT3.out.block g (Aa.1 R2.out).1 HGL.out).trans R2.out
    obtain⟨Y,hY⟩:∃Y,Y=(rowOf (shw s' L') 40).toList.toArray:=⟨_,rfl⟩
    have HY:Hid (Y=(rowOf (shw s' L') 40).toList.toArray):=hY
    have HYI:Hid ((prog.info? 32).map (·.size)=some Y.size/\40=Y.size/\Y.all (·.oneCell')=true):=by rw[hY];refine⟨?_,?_,HS3.out.shown_ones⟩<;>rw[Am,zf];exact qo
    have HSL:Hid ((prog.info? 32).map (·.size)=some (rowOf (shw s' L') 40).toList.length):=by show _=_;rw[Ad,zf];exact qo
    have HGO:Hid (¬own b L' g):=fun ho=>qm HT3.out.fresh HGL.out (Aa.1 R2.out).1 ho
    have HGD:Hid (Gd mach ⟨R,pc,st,ca,f⟩ s'):=HGX.out
    clear hY HRS
    go_wp2_with(first|(refine WY rfl 32 _ rfl b 3 rfl (rowOf (shw s' L') 40).toList _ HS3.out.shown underlying32 rfl HSL.out ?_;rw[<-HY.out])|(refine Ak rfl 32 _ _ rfl _ _ rfl rfl 32 _ R3.out HYI.out.1 (HCS.out.symm.trans HYI.out.2.1) HYI.out.2.2 ?_))
    refine Aq (v:=.tuple #[.agg Y,.int .i64 0]) (xA results6 _ _ _ 32 _ (0,0) _ _ rfl rfl (yf R3.out) underlying32 rfl HYI.out.1) rfl ⟨⟨L',by rw[HY.out],?_,?_,HGD.out⟩,below_setRow B3.out _ (by have:=HQW.out;omega)⟩
    ·exact HS3.out.its.ic.move fun x hx=>kF (fun e=>HGO.out (.inr (.inl (by rw[<-e];exact hx))))
    ·obtain⟨pm,cm,em,hm'⟩:=HS3.out.its.im
     refine⟨pm,cm,em,xz hm' fun h0 x hx=>kF (fun e=>?_)⟩
     obtain⟨g',o',e',hl⟩:=hm'.hm h0
     rw[hx]at e'
     cases e'
     have hcl:=hl 0 h0
     rw[show g'=g from e,WZ _ _ _ _ _ _ R3.out]at hcl
     exact HC8.out _ _ hcl
  ·have HRS:Hid (s'=r):=by
    show _=_
    have:=HG3.out.2.2
    rw[show cy-k=0 by omega]at this
    exact this
   have HGX:Hid (Gd mach ⟨R,pc,st,ca,f⟩ s'):=HG3.out.1
   clear HG3
   have e:=HRS.out
   subst e
   have B3:Hid (Below w.heap.size w wr):=zeH B2.out HT3.out (fun g hg=>S2.out.its.base g hg)
   have R3:Hid (wr.heap[g]?=some (.cells cur 32 (0,0))):=(HT3.out.block g (Aa.1 R2.out).1 HGL.out).trans R2.out
   obtain⟨Y,hY⟩:∃Y,Y=(rowOf (shw s' L') 40).toList.toArray:=⟨_,rfl⟩
   have HY:Hid (Y=(rowOf (shw s' L') 40).toList.toArray):=hY
   have HYI:Hid ((prog.info? 32).map (·.size)=some Y.size/\40=Y.size/\Y.all (·.oneCell')=true):=by rw[hY];refine⟨?_,?_,HS3.out.shown_ones⟩<;>rw[Am,zf];exact qo
   have HSL:Hid ((prog.info? 32).map (·.size)=some (rowOf (shw s' L') 40).toList.length):=by show _=_;rw[Ad,zf];exact qo
   have HGO:Hid (¬own b L' g):=fun ho=>qm HT3.out.fresh HGL.out (Aa.1 R2.out).1 ho
   have HGD:Hid (Gd mach ⟨R,pc,st,ca,f⟩ s'):=HGX.out
   clear hY HRS
   go_wp2_with(first|(refine WY rfl 32 _ rfl b 3 rfl (rowOf (shw s' L') 40).toList _ HS3.out.shown underlying32 rfl HSL.out ?_;rw[<-HY.out])|(refine Ak rfl 32 _ _ rfl _ _ rfl rfl 32 _ R3.out HYI.out.1 (HCS.out.symm.trans HYI.out.2.1) HYI.out.2.2 ?_))
   refine Aq (v:=.tuple #[.agg Y,.int .i64 0]) (xA results6 _ _ _ 32 _ (0,0) _ _ rfl rfl (yf R3.out) underlying32 rfl HYI.out.1) rfl ⟨⟨L',by rw[HY.out],?_,?_,HGD.out⟩,below_setRow B3.out _ (by have:=HQW.out;omega)⟩
   ·exact HS3.out.its.ic.move fun x hx=>kF (fun e=>HGO.out (.inr (.inl (by rw[<-e];exact hx))))
   ·obtain⟨pm,cm,em,hm'⟩:=HS3.out.its.im
    refine⟨pm,cm,em,xz hm' fun h0 x hx=>kF (fun e=>?_)⟩
    obtain⟨g',o',e',hl⟩:=hm'.hm h0
    rw[hx]at e'
    cases e'
    have hcl:=hl 0 h0
    rw[show g'=g from e,WZ _ _ _ _ _ _ R3.out]at hcl
    exact HC8.out _ _ hcl
end Go.Proofs.YtpiohehijkpghacGreatDoor.Co
namespace Go.Proofs.YtpiohehijkpghacGreatDoor
open Go.RowKit
open Hy
def dAt(d:DataW Unit)(i:Nat):DataW Unit:=match d with
 |.agg l=>l.getD i .nil
 |_=>.nil
def dInt(d:DataW Unit):Int:=match d with
 |.lit (.int _ z)=>z
 |_=>0
section
variable {enc:TypeId×Value->Unit} {w:World} {base:Nat} {sp:Nat->Bool} {held:Bool} {fuel:Nat} {cs:List Value} {d:DataW Unit} {p:List MemPlace}
theorem zeI{t e:TypeId}{n:Nat}(ht:prog.underlying t=some (.array n e))(h:Af enc prog w base sp held fuel t cs=some (d,p))(i:Nat)(hi:i<n):
  ∃m q,Af enc prog w base sp held m e ((cs.drop (i*prog.cellsOf e)).take (prog.cellsOf e))=some (dAt d i,q):=by
 obtain⟨xs,m,_,hx,_,hn,hall⟩:=DataW.trod_array ht h
 have hd:d=.agg (xs.map (·.1)):=congrArg Prod.fst hx
 have hlt:i<xs.length:=by omega
 refine⟨m,xs[i].2,?_⟩
 rw[hall i hi,Aj hlt,hd]
 simp[dAt,hlt]
theorem zid{t:TypeId}{fs:Array Field}(ht:prog.underlying t=some (.struct fs))(h:Af enc prog w base sp held fuel t cs=some (d,p))(i:Nat)(f:Field)(hi:fs[i]?=some f):
  ∃m q,Af enc prog w base sp held m f.type ((cs.drop f.offset).take (prog.cellsOf f.type))=some (dAt d i,q):=by
 obtain⟨xs,m,_,hx,_,hn,hall⟩:=DataW.trod_struct ht h
 have hd:d=.agg (xs.map (·.1)):=congrArg Prod.fst hx
 have hlt:i<xs.length:=by
  have:=(Aa.1 hi).1
  omega
 refine⟨m,xs[i].2,?_⟩
 rw[hall i f hi,Aj hlt,hd]
 simp[dAt,hlt]
theorem zkD{o:Nat}(h:Af enc prog w base sp held fuel 24 ((cs.drop o).take 1)=some (d,p)):cs[o]?=some (.int .u32 (dInt d)):=by
 obtain⟨z,hc,hx,_⟩:=DataW.trod_int underlying24 h
 have hd:d=.lit (.int .u32 z):=congrArg Prod.fst hx
 have:=congrArg (·[0]?) hc
 simp[Ai]at this
 rw[this,hd]
 rfl
theorem yH{l:List Value}{o n j:Nat}(hj:j<n):((l.drop o).take n)[j]?=l[o+j]?:=by
 simp[Ai,hj]
theorem c40:prog.cellsOf 113=17:=by kernel_rfl
theorem c38:prog.cellsOf 111=12:=by kernel_rfl
theorem c37:prog.cellsOf 110=3:=by kernel_rfl
theorem c22:prog.cellsOf 24=1:=by kernel_rfl
theorem zjW(h:Af enc prog w base sp held fuel 114 cs=some (d,p))(f:Nat)(hf:f<9)(j:Nat)(hj:j<5):
  cs[f*17+j]?=some (.int .u32 (dInt (dAt (dAt d f) j))):=by
 obtain⟨m,q,h1⟩:=zeI underlying114 h f hf
 rw[c40]at h1
 have key:∀fl:Field,fl.type=24->fl.offset=j->(match prog.underlying 113 with|some (.struct fs)=>fs[j]?|_=>none)=some fl->cs[f*17+j]?=some (.int .u32 (dInt (dAt (dAt d f) j))):=by
  intro fl t1 t2 t3
  rw[underlying113]at t3
  obtain⟨m2,q2,h2⟩:=zid underlying113 h1 j fl t3
  rw[t1,t2,c22]at h2
  have:=zkD h2
  rwa [yH (by omega)]at this
 rcases(by omega:j=0\/j=1\/j=2\/j=3\/j=4)with rfl|rfl|rfl|rfl|rfl
 all_goals(refine key _ ?_ ?_ (by rw[underlying113];rfl)<;>rfl)
theorem zmz(h:Af enc prog w base sp held fuel 114 cs=some (d,p))(f:Nat)(hf:f<9)(k:Nat)(hk:k<4)(l:Nat)(hl:l<3):
  cs[f*17+(5+(k*3+l))]?=some (.int .u32 (dInt (dAt (dAt (dAt (dAt d f) 5) k) l))):=by
 obtain⟨m,q,h1⟩:=zeI underlying114 h f hf
 rw[c40]at h1
 obtain⟨m2,q2,h2⟩:=zid underlying113 h1 5 _ rfl
 have h2':Af enc prog w base sp held m2 111 ((((cs.drop (f*17)).take 17).drop 5).take 12)=some (dAt (dAt d f) 5,q2):=by rw[<-c38];exact h2
 obtain⟨m3,q3,h3⟩:=zeI underlying111 h2' k hk
 rw[c37]at h3
 have key:∀fl:Field,fl.type=24->fl.offset=l->(match prog.underlying 110 with|some (.struct fs)=>fs[l]?|_=>none)=some fl->cs[f*17+(5+(k*3+l))]?=some (.int .u32 (dInt (dAt (dAt (dAt (dAt d f) 5) k) l))):=by
  intro fl t1 t2 t3
  rw[underlying110]at t3
  obtain⟨m4,q4,h4⟩:=zid underlying110 h3 l fl t3
  rw[t1,t2,c22]at h4
  have:=zkD h4
  rwa [yH (by omega),yH (by omega),yH (by omega)]at this
 rcases(by omega:l=0\/l=1\/l=2)with rfl|rfl|rfl
 all_goals(refine key _ ?_ ?_ (by rw[underlying110];rfl)<;>rfl)
end
abbrev zeJ:DataW Unit:=Rows.laid_humpyard_decode_forms
theorem zie:∀f,f<9->∀j,j<5->dInt (dAt (dAt zeJ f) j)=ftab.getD (f*17+j) 0:=by decide
theorem zjX:∀f,f<9->∀k,k<4->∀l,l<3->dInt (dAt (dAt (dAt (dAt zeJ f) 5) k) l)=ftab.getD (f*17+(5+(k*3+l))) 0:=by decide
theorem gTab:prog.globalNamed "humpyard/decode.forms" =some 0:=by kernel_rfl
theorem zjY:(prog.globals[0]?).map (·.type)=some 114:=by kernel_rfl
theorem zdB{W:World}(h:laidMet prog [("humpyard/decode.forms",zeJ)] W):Tab W:=by
 obtain⟨ps,⟨g',t',cs,fuel,p,q,hg',ht',hvar,hd,_,_⟩,_⟩:=h
 obtain rfl:=Ab (gTab.symm.trans hg')
 obtain rfl:=Ab (zjY.symm.trans ht')
 intro i hi
 rw[World.var?_cell gTab hvar i]
 have hr:i%17<17:=Nat.mod_lt _ (by omega)
 have hm:i=i/17*17+i%17:=by omega
 have hf:i/17<9:=by omega
 by_cases h5:i%17<5
 ·have h1:=zjW hd (i/17) hf (i%17) h5
  rw[zie _ hf _ h5,<-hm]at h1
  simpa using h1
 ·have e:5+((i%17-5)/3*3+(i%17-5)%3)=i%17:=by omega
  have h1:=zmz hd (i/17) hf ((i%17-5)/3) (by omega) ((i%17-5)%3) (by omega)
  rw[zjX _ hf _ (by omega) _ (by omega),e,<-hm]at h1
  simpa using h1
end Go.Proofs.YtpiohehijkpghacGreatDoor
namespace Go.Proofs.YtpiohehijkpghacGreatDoor
open Go.ChangeShapes Go.WideShapes Go.ChangeAt Go.RowKit
open Hy
section
variable {H:Type} {enc:TypeId×Value->H} {w:World} {base:Nat} {sp:Nat->Bool} {held:Bool} {fuel:Nat} {cs:List Value} {d:DataW H} {p:List MemPlace}
theorem k3:prog.cellsOf 3=1:=by kernel_rfl
theorem k32:prog.cellsOf 25=32:=by kernel_rfl
end
abbrev imm0:DataW Unit:=Rows.laid_humpyard_hart_immediate
theorem zoy:prog.globalNamed "humpyard/hart.immediate" =some 2:=by kernel_rfl
theorem zpy:(prog.globals[2]?).map (·.type)=some 246:=by kernel_rfl
theorem zmA:∀i,i<49->dInt (dAt imm0 i)=itab.getD i 0:=by decide
theorem zct{W:World}(h:laidMet prog [("humpyard/decode.forms",zeJ),("humpyard/hart.immediate",imm0)] W):Tab W/\Tab2 W:=by
 obtain⟨ps,⟨g,t,cs,fuel,p,q,hg,ht,hvar,hd,hrest,hps⟩,hnd,hcell⟩:=h
 constructor
 ·refine zdB ⟨MemPlace.row ⟨g,0,none⟩ cs.size++p++[],⟨g,t,cs,fuel,p,[],hg,ht,hvar,hd,rfl,rfl⟩,?_,fun b off hb=>hcell b off ?_⟩
  ·rw[hps]at hnd
   rw[WW]
   exact(List.nodup_append.1 hnd).1
  ·rw[hps]
   rw[WW]at hb
   exact List.mem_append_left _ hb
 ·obtain⟨g2,t2,cs2,fuel2,p2,q2,hg2,ht2,hvar2,hd2,_,_⟩:=hrest
  obtain rfl:=Ab (zoy.symm.trans hg2)
  obtain rfl:=Ab (zpy.symm.trans ht2)
  intro i hi
  rw[World.var?_cell zoy hvar2 i]
  obtain⟨m,q,h1⟩:=zeI underlying246 hd2 i hi
  rw[k3,Nat.mul_one]at h1
  obtain⟨z,hc,hx,_⟩:=DataW.trod_int underlying3 h1
  have hz:dInt (dAt imm0 i)=z:=by
   have:=congrArg Prod.fst hx
   simp only at this
   rw[this];rfl
  have:=congrArg (·[0]?) hc
  rw[<-zmA i hi,hz]
  simpa[List.getElem?_take,Ai]using this
end Go.Proofs.YtpiohehijkpghacGreatDoor
namespace Go.Proofs.YtpiohehijkpghacGreatDoor.Co
open Go.ChangeShapes Go.WideShapes Go.ChangeAt Go.RowKit
open Hy
open Wi Od Re.Hy
open Gu.Hy (Tb tcs)
section
variable {H:Type} {enc:TypeId×Value->H} {w:World} {base:Nat} {sp:Nat->Bool} {held:Bool} {fuel:Nat} {d:DataW H} {p:List MemPlace}
end
end Go.Proofs.YtpiohehijkpghacGreatDoor.Co
