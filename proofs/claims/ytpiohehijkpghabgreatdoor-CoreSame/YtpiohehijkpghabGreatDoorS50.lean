/- That nobody can tell a core from one that takes one instruction after the other: the law. -/
import Derived.Test.YtpiohehijkpghabGreatDoorS04
import Derived.Test.YtpiohehijkpghabGreatDoorS49
import Derived.Test.YtpiohehijkpghabGreatDoorS03
import Derived.Test.YtpiohehijkpghabGreatDoorS48
import Derived.Test.YtpiohehijkpghabGreatDoorS33
import Derived.Test.YtpiohehijkpghabGreatDoorS32
set_option maxRecDepth 20000
set_option maxHeartbeats 8000000
set_option linter.unusedSimpArgs false
set_option linter.unusedVariables false
open Go.Proofs.Tryz
namespace Go.Proofs.YtpiohehijkpghabGreatDoor.Co
open Go.RowKit
open Hy
open Wi Od Re.Hy
open Gu.Hy (Tb tcs)
theorem vN{P:Program}{ops:Array Oper}{rest:List Oper}{o:Oper}{a:Act}{w:World}{Q:Exit->Act->World->Prop}(hw:Region.wanted o (yielded ops a.tmps)=true)(t:TypeId)(ho:o.op=.build t #[])(cells:Array Value)
  (hb:P.built t []=some cells) (h:wpList P ops Q rest (a.put o.dst (.agg cells)) w):wpList P ops Q (o::rest) a w:=by
 have h':wpList P ops Q ({o with guard:=none}::rest) a w:=kM rfl t ho cells hb h
 unfold wpList at h'⊢
 rw[if_pos hw]
 rw[if_pos (by rfl)]at h'
 exact h'
def Out2(w:World)(e:Ending)(er:Int)(l:List Cm)(k:Nat)(G:Array Value)(st:Int)(n:Nat)(f:Nat->Int)(cyc tak bck:Int):Prop:=
 ∃Y p c mp mc,e=.returned (.tuple #[.agg Y,.int .i64 er])/\Y.size=40/\Y.all (·.oneCell')=true/\Y[0]?=some (.slice p k c)/\(∀j v,G.toList[j]?=some v->Y[1+j]?=some v)/\Y[34]?=some (.int .i64 st)/\Y[36]?=some (.slice mp n mc)/\Y[37]?=some (.int .i64 cyc)/\Y[38]?=some (.int .i64 tak)/\Y[39]?=some (.int .i64 bck)/\LC w p k c 11 (flat cml l)/\Mem w mp n f
theorem kN(wi ph wd:Int)(H:Array Value)(HH:Hid ((prog.info? 27).map (·.size)=some H.size))(mp:Option Addr)(n mc:Nat)(sp:Option Addr)(sn sc:Nat)(cy:Int)(w:World)
  (er:Int) (l:List Cm) (k m:Nat) (G:Array Value) (st:Int) (f:Nat->Int) (cyc tak bck:Int) (hl:Hid (l.length=k)) (lk:k<=2000)
  (HG:Hid (G.size=35/\Ones G)) (qG:∀w,(binOp .eql 27 (.agg G) (.agg G)).run prog w=.ok (.bool true) w)
  (C1:Hid (∀W,Below w.heap.size w W->Calls prog 5 #[.agg #[.int .i64 wi,.int .i64 ph,.int .i64 wd],.agg H,.slice mp n mc,.slice sp sn sc,.int .i64 cy] W fun e w'=>Out2 w' e er l k G st m f cyc tak bck/\Below W.heap.size W w'))
  (CW:∀W,Calls prog 6 #[.agg #[.int .i64 wi,.int .i64 ph,.int .i64 wd],.agg H,.slice mp n mc,.slice sp sn sc,.int .i64 cy] W fun e w'=>e=.returned (.int .i64 er)/\Below W.heap.size W w')
  (K:(er≠0/\k=0/\m=0/\cyc=0/\tak=0/\bck=0/\prog.built 27 []=some G)\/(er=0/\cyc<=cy/\0<=cyc/\0<=tak/\0<=bck/\(st=0->cyc=cy)/\m=n/\
   ∀W,Below w.heap.size w W->Calls prog 7 #[.agg H,.slice mp n mc,.int .i64 k] W fun e w'=>(∃lp lc p' cap,e=.returned (.tuple #[.slice lp k lc,.agg G,.slice p' n cap])/\LC w' lp k lc 11 (flat cml l)/\Mem w' p' n f)/\Below W.heap.size W w')):
  Calls prog 3 #[.agg #[.int .i64 wi,.int .i64 ph,.int .i64 wd],.agg H,.slice mp n mc,.slice sp sn sc,.int .i64 cy] w fun e w'=>e=.returned (.bool true)/\Below w.heap.size w w':=by
 have HK:Hid _:=K
 clear K
 have HGI:Hid ((prog.info? 27).map (·.size)=some G.size):=qi HG.out.1
 go_enter func3,ntmps3
 go_upto_region 1 with fail
 refine Wi.qH (Φ:=fun W=>Code.wp _ _ _ _ W) ?_
 intro V e1 e2 hb hsz
 have HQ:Hid (V.heap[w.heap.size+1]?=some (.cells H 27 (0,0))):=e2
 have k0:V.cell? ⟨w.heap.size,0,none⟩=some (.int .i64 wi):=by rw[cell_of_row _ _ _ _ _ _ e1];rfl
 have k1:V.cell? ⟨w.heap.size,1,none⟩=some (.int .i64 ph):=by rw[cell_of_row _ _ _ _ _ _ e1];rfl
 have k2:V.cell? ⟨w.heap.size,2,none⟩=some (.int .i64 wd):=by rw[cell_of_row _ _ _ _ _ _ e1];rfl
 have HB:Hid (Below w.heap.size w V):=hb
 have hqV:w.heap.size+1<V.heap.size:=by omega
 clear e1 e2 hb hsz
 obtain⟨h,hh⟩:∃h,h=w.heap.size+1:=⟨_,rfl⟩
 obtain⟨q,hq⟩:∃q,q=w.heap.size:=⟨_,rfl⟩
 rw[<-hh]at HQ hqV⊢
 rw[<-hq]at k0 k1 k2⊢
 have hqV':q<V.heap.size:=by omega
 clear hq hh
 go_wp2_with(refine wpList_load_row rfl 27 _ rfl _ rfl 27 _ (0,0) _ HQ.out underlying27 rfl HH.out ?_)
 refine(C1.out _ HB.out).mono ?_
 rintro e V1 ⟨⟨Y,p,c,xp,xc,rfl,hYs,hYo,y0,yG,y34,y36,y37,y38,y39,hL,hM⟩,hk1⟩
 have B1:Hid (Below w.heap.size w V1):=HB.out.trans (hk1.mono HB.out.size)
 have Q1:Hid (V1.heap[h]?=some (.cells H 27 (0,0))):=(hk1.block h hqV).trans HQ.out
 have j0:V1.cell? ⟨q,0,none⟩=some (.int .i64 wi):=zn hk1 k0
 have j1:V1.cell? ⟨q,1,none⟩=some (.int .i64 ph):=zn hk1 k1
 have j2:V1.cell? ⟨q,2,none⟩=some (.int .i64 wd):=zn hk1 k2
 have hh1:h<V1.heap.size:=Nat.lt_of_lt_of_le hqV hk1.size
 have hq1:q<V1.heap.size:=Nat.lt_of_lt_of_le hqV' hk1.size
 have HL:Hid (LC V1 p k c 11 (flat cml l)/\Mem V1 xp m f):=⟨hL,hM⟩
 have HYI:Hid ((prog.info? 32).map (·.size)=some Y.size/\40=Y.size/\Y.all (·.oneCell')=true):=⟨by rw[hYs];exact qO,hYs.symm,hYo⟩
 have HYG:Hid (∀j v,G.toList[j]?=some v->Y[1+j]?=some v):=yG
 clear hk1 HB HQ k0 k1 k2 hqV hqV' C1 hYs hYo hL hM yG
 go_upto_region 2 with(refine wpList_store_row rfl 32 _ _ rfl _ _ rfl rfl 32 _ (heap_alloc_new _ _) HYI.out.1 HYI.out.2.1 HYI.out.2.2 ?_;rw[World.setRow_alloc_new])
 refine zeR (Φ:=fun W=>Code.wp _ _ _ _ W) ?_
 intro V2 eY hb2
 have B2:Hid (Below w.heap.size w V2):=B1.out.trans (hb2.mono B1.out.size)
 have Q2:Hid (V2.heap[h]?=some (.cells H 27 (0,0))):=(hb2.block h hh1).trans Q1.out
 have i0:V2.cell? ⟨q,0,none⟩=some (.int .i64 wi):=zn hb2 j0
 have i1:V2.cell? ⟨q,1,none⟩=some (.int .i64 ph):=zn hb2 j1
 have i2:V2.cell? ⟨q,2,none⟩=some (.int .i64 wd):=zn hb2 j2
 have hh2:h<V2.heap.size:=Nat.lt_of_lt_of_le hh1 hb2.size
 have HL2:Hid (LC V2 p k c 11 (flat cml l)/\Mem V2 xp m f):=⟨HL.out.1.below (Nat.le_refl _) hb2,HL.out.2.below hb2⟩
 have hg2:V1.heap.size<V2.heap.size:=zr eY
 have HE:Hid (V2.heap[V1.heap.size]?=some (.cells Y 32 (0,0))):=eY
 obtain⟨g,hg⟩:∃g,g=V1.heap.size:=⟨_,rfl⟩
 rw[<-hg]at HE hg2⊢
 clear eY hb2 j0 j1 j2 hh1 hq1 HYI B1 Q1 HL hg
 go_wp2_with(refine wpList_load_row rfl 27 _ rfl _ rfl 27 _ (0,0) _ Q2.out underlying27 rfl HH.out ?_)
 refine(CW _).mono ?_
 rintro e V ⟨rfl,hk3⟩
 have HB:Hid (Below w.heap.size w V):=B2.out.trans (hk3.mono B2.out.size)
 have Q3:Hid (V.heap[h]?=some (.cells H 27 (0,0))):=(hk3.block h hh2).trans Q2.out
 have HE3:Hid (V.heap[g]?=some (.cells Y 32 (0,0))):=(hk3.block g hg2).trans HE.out
 have x0:V.cell? ⟨g,0,none⟩=some (.slice p k c):=by rw[cell_of_row _ _ _ _ _ _ HE3.out];exact y0
 have x34:V.cell? ⟨g,34,none⟩=some (.int .i64 st):=by rw[cell_of_row _ _ _ _ _ _ HE3.out];exact y34
 have x36:V.cell? ⟨g,36,none⟩=some (.slice xp m xc):=by rw[cell_of_row _ _ _ _ _ _ HE3.out];exact y36
 have x37:V.cell? ⟨g,37,none⟩=some (.int .i64 cyc):=by rw[cell_of_row _ _ _ _ _ _ HE3.out];exact y37
 have x38:V.cell? ⟨g,38,none⟩=some (.int .i64 tak):=by rw[cell_of_row _ _ _ _ _ _ HE3.out];exact y38
 have x39:V.cell? ⟨g,39,none⟩=some (.int .i64 bck):=by rw[cell_of_row _ _ _ _ _ _ HE3.out];exact y39
 have RG:Hid (V.rangeAt g 1 G.toList):=fun j v hv=>by rw[cell_of_row _ _ _ _ _ _ HE3.out];exact HYG.out j v hv
 have HL3:Hid (LC V p k c 11 (flat cml l)/\Mem V xp m f):=⟨HL2.out.1.below (Nat.le_refl _) hk3,HL2.out.2.below hk3⟩
 have hhV:h<V.heap.size:=Nat.lt_of_lt_of_le hh2 hk3.size
 have hgV:g<V.heap.size:=Nat.lt_of_lt_of_le hg2 hk3.size
 clear hk3 B2 Q2 HE i0 i1 i2 hh2 hg2 HL2 CW y0 y34 y36 y37 y38 y39 HYG
 rcases HK.out with⟨ne,rfl,rfl,rfl,rfl,rfl,bl⟩|⟨rfl,c1,c2,c3,c4,c5,rfl,CP⟩
 ·have h1:(er != 0)=true:=by simpa using ne
  have BL:Hid (prog.built 27 []=some G):=bl
  clear ne bl HK
  go_wp2_with(first|(refine qw (by rfl) 27 _ rfl _ 1 rfl G _ RG.out underlying27 rfl HGI.out ?_)|(refine vN (by rfl) 27 rfl G BL.out ?_))
  go_ret
  exact⟨by simp,HB.out⟩
 ·have d1:decide (cy<cyc)=false:=decide_eq_false (by omega)
  have d2:decide (cyc<0)=false:=decide_eq_false (by omega)
  have d3:decide (tak<0)=false:=decide_eq_false (by omega)
  have d4:decide (bck<0)=false:=decide_eq_false (by omega)
  have CP:Hid _:=CP
  have hx:(decide (cyc<cy)=false)\/(decide (cyc<cy)=true/\(st==0)=false):=by
   by_cases hlt:cyc<cy
   ·refine .inr ⟨decide_eq_true hlt,beq_eq_false_iff_ne.2 fun h=>?_⟩
    have:=c5 h
    omega
   ·exact .inl (decide_eq_false hlt)
  clear HK c1 c2 c3 c4 c5
  rcases hx with d5|⟨d5,d6⟩
  all_goals(
   go_upto_region 7 with fail
   go_wp2_with(refine wpList_load_row rfl 27 _ rfl _ rfl 27 _ (0,0) _ Q3.out underlying27 rfl HH.out ?_)
   refine(CP.out _ HB.out).mono ?_
   rintro e W ⟨⟨lp,lc,p',cap,rfl,hLp,hMp⟩,hk⟩
   have B4:Hid (Below w.heap.size w W):=HB.out.trans (hk.mono HB.out.size)
   have HE4:Hid (W.heap[g]?=some (.cells Y 32 (0,0))):=(hk.block g hgV).trans HE3.out
   have z0:W.cell? ⟨g,0,none⟩=some (.slice p k c):=zn hk x0
   have z36:W.cell? ⟨g,36,none⟩=some (.slice xp m xc):=zn hk x36
   have RG4:Hid (W.rangeAt g 1 G.toList):=jy hk RG.out
   have hgW:g<W.heap.size:=Nat.lt_of_lt_of_le hgV hk.size
   have L4:Hid ((LC W p k c 11 (flat cml l)/\Mem W xp m f)/\LC W lp k lc 11 (flat cml l)/\Mem W p' m f):=⟨⟨HL3.out.1.below (Nat.le_refl _) hk,HL3.out.2.below hk⟩,hLp,hMp⟩
   clear hk HB Q3 HE3 x0 x34 x36 x37 x38 x39 RG HL3 hhV hgV hLp hMp CP HH
   go_upto_region 8 with(refine wpList_store_row rfl 27 _ _ rfl _ _ rfl rfl 27 _ (heap_alloc_new _ _) HGI.out (zh1 HG.out.1) HG.out.2 ?_;rw[World.setRow_alloc_new])
   refine zeR (Φ:=fun W=>Code.wp _ _ _ _ W) ?_
   intro U eU hbU
   have B5:Hid (Below w.heap.size w U):=B4.out.trans (hbU.mono B4.out.size)
   have RU:Hid (U.heap[W.heap.size]?=some (.cells G 27 (0,0))):=eU
   have x0:U.cell? ⟨g,0,none⟩=some (.slice p k c):=zn hbU z0
   have x36:U.cell? ⟨g,36,none⟩=some (.slice xp m xc):=zn hbU z36
   have RG:Hid (U.rangeAt g 1 G.toList):=jy hbU RG4.out
   have hgU:g<U.heap.size:=Nat.lt_of_lt_of_le hgW hbU.size
   have hyU:W.heap.size<U.heap.size:=zr eU
   have CS:∀V,Below U.heap.size U V->Calls prog 8 #[.slice p k c,.slice lp k lc] V fun e w'=>e=.returned (.bool true)/\Below V.heap.size V w':=fun V hV=>zqf hl.out (by omega) ((L4.out.1.1.below (Nat.le_refl _) hbU).below (Nat.le_refl _) hV) ((L4.out.2.1.below (Nat.le_refl _) hbU).below (Nat.le_refl _) hV)
   have CB:∀V,Below U.heap.size U V->Calls prog 9 #[.slice xp m xc,.slice p' m cap] V fun e w'=>e=.returned (.bool true)/\w'=V:=fun V hV=>ze0 xp p' m xc cap ((List.range m).map f) (by simp) V (((L4.out.1.2.below hbU).below hV).bytes) (((L4.out.2.2.below hbU).below hV).bytes)
   obtain⟨y,hy⟩:∃y,y=W.heap.size:=⟨_,rfl⟩
   rw[<-hy]at RU hyU⊢
   clear eU hbU z0 z36 RG4 hgW L4 B4 HE4 hy
   go_wp2_with fail
   refine(CS _ (Below.refl _ _)).mono ?_
   rintro e U2 ⟨rfl,hk⟩
   have B6:Hid (Below w.heap.size w U2):=B5.out.trans (hk.mono B5.out.size)
   have z36:U2.cell? ⟨g,36,none⟩=some (.slice xp m xc):=zn hk x36
   have RG2:Hid (U2.rangeAt g 1 G.toList):=jy hk RG.out
   have RU2:Hid (U2.heap[y]?=some (.cells G 27 (0,0))):=(hk.block y hyU).trans RU.out
   have CB:=CB _ hk
   clear hk CS x0 x36 RG RU B5 hgU hyU
   go_wp2_with(first|(refine qw (by rfl) 27 _ rfl _ 1 rfl G _ RG2.out underlying27 rfl HGI.out ?_)|(refine xg (by rfl) 27 _ rfl _ rfl 27 _ (0,0) _ RU2.out underlying27 rfl HGI.out ?_))
   refine CB.mono ?_
   rintro e w' ⟨rfl,rfl⟩
   go_wp2_with fail
   go_ret
   exact⟨rfl,B6.out⟩)
theorem zkq{i:In}(hi:InOk i){pc a:Int}{n:Nat}{f:Nat->Int}(hp:U32 pc)(h0:ldn i.op≠0)(hf:∀i,i<n->0<=f i/\f i<=255):CmR (qa n f i pc a):=by
 unfold qa
 split
 ·rename_i h
  obtain⟨x0,_,x1⟩:=jp.1 h
  exact zex hp hi.lr (zif h0 fun k hk=>hf _ (by omega))
 ·exact jC hp (by omega)
theorem zm5{n:Nat}{R:Nat->Int}{pc:Int}{f:Nat->Int}(hR:∀i,i<32->U32 (R i))(hp:U32 pc)(hf:∀i,i<n->0<=f i/\f i<=255):CmR (zbd mach n R pc f)/\((zbd mach n R pc f).st=0->(zbd mach n R pc f).ca=0):=by
 unfold zbd
 split
 ·rename_i h
  refine⟨jC hp ?_,fun h=>absurd h (by show¬((2:Int)=0);omega)⟩
  unfold fet
  split
  ·split
   ·exact⟨by show(0:Int)<=0;omega,by show(0:Int)<=6;omega⟩
   ·exact⟨by show(0:Int)<=2;omega,by show(2:Int)<=6;omega⟩
  ·exact⟨by show(0:Int)<=1;omega,by show(1:Int)<=6;omega⟩
 ·rename_i h
  have hi:InOk (fet mach n f pc).1:=by
   revert h
   unfold fet
   split
   ·split
    ·rename_i i hd
     intro _
     exact zbu hd
    ·intro h
     exact absurd (show(2:Int)≠0 by omega) h
   ·intro h
    exact absurd (show(1:Int)≠0 by omega) h
  generalize (fet mach n f pc).1=i at hi⊢
  have hra:ra i<32:=by unfold ra;split;omega;exact hi.l1
  have hrb:rb i<32:=by unfold rb;split;omega;exact hi.l2
  have ha:=hR _ hra
  have hb:=hR _ hrb
  generalize R (ra i)=a at ha⊢
  generalize R (rb i)=b at hb⊢
  unfold comC
  split
  ·rename_i h0
   refine⟨zkq hi hp h0 hf,?_⟩
   unfold qa
   split
   ·exact fun _=>rfl
   ·exact fun h=>absurd h (by show¬((2:Int)=0);omega)
  ·refine⟨zkP hi hp ha hb,?_⟩
   show(doW i pc a b n).st=0->(doW i pc a b n).ca=0
   unfold doW
   split
   ·split
    ·exact fun _=>rfl
    ·exact fun h=>absurd h (by show¬((2:Int)=0);omega)
   ·split
    ·exact fun _=>rfl
    ·split
     ·split
      ·exact fun _=>rfl
      ·split
       ·exact fun _=>rfl
       ·exact fun h=>absurd h (by show¬((2:Int)=0);omega)
     ·split
      ·exact fun h=>absurd h (by show¬((2:Int)=0);omega)
      ·exact fun _=>rfl
structure HsR(n:Nat)(h:Hs):Prop where
 R:∀i,i<32->U32 (h.R i)
 pc:U32 h.pc
 f:∀i,i<n->0<=h.f i/\h.f i<=255
 ca:h.st=0->h.ca=0
theorem HsR.next{n:Nat}{h:Hs}(H:HsR n h):HsR n (hsN mach n h):=by
 obtain⟨c,hc⟩:=zm5 H.R H.pc H.f
 refine⟨fun i hi=>?_,c.next,fun i hi=>?_,hc⟩
 ·show U32 (updC h.R (hsC mach n h) i)
  unfold updC
  split
  ·exact H.R i hi
  ·unfold up
   split
   ·exact c.val
   ·exact H.R i hi
 ·show 0<=stoC h.f (hsC mach n h) i/\stoC h.f (hsC mach n h) i<=255
  unfold stoC sto
  split
  ·omega
  ·exact H.f i hi
theorem HsR.at{n:Nat}{h:Hs}(H:HsR n h):∀k,HsR n (hsAt mach n h k)
 |0=>H
 |k+1=>(HsR.at H k).next
def hsH(h:Hs):Array Value:=hcs h.R h.pc h.st h.ca
theorem zcR(C:Nat->Cm):∀m,coms (fun i=>cC (C i)) m=flat cml ((List.range m).map C)
 |0=>rfl
 |m+1=>by
  rw[List.range_succ,List.map_append,kF]
  show coms _ m++_=_
  rw[zcR C m]
  rfl
theorem zm6{r:Cr}{h0:Hs}(hr:Ref mach h0 r)(n:Nat)(hn:r.n=n)(hn4:n<=4096)(H0:HsR n h0)(k:Nat)(hk:r.coms.length=k)(k2:k<=2000)(p:Option Addr)(c:Nat)(hnc:n<=c)(w:World)(hM:Mem w p n h0.f):
  Calls prog 7 #[.agg (hsH h0),.slice p n c,.int .i64 k] w fun e w'=>(∃lp lc p' cap,e=.returned (.tuple #[.slice lp k lc,.agg (hcs r.R r.pc r.st r.ca),.slice p' n cap])/\LC w' lp k lc 11 (flat cml r.coms)/\Mem w' p' n r.f)/\Below w.heap.size w w':=by
 have hAt:=H0.at
 have hst:∀j,j<k->(hsAt mach n h0 j).st=0:=fun j hj=>by have:=hr.runs j (by omega);rwa [hn]at this
 refine(zmd (fun i=>hsH (hsAt mach n h0 i)) (fun i=>cC (hsC mach n (hsAt mach n h0 i))) (fun i=>(hsAt mach n h0 i).f) k n c (fun i=>⟨rfl,yn _ _ _ _⟩) (fun i=>ja _) (fun i hi=>?_) (fun i=>⟨_,rfl⟩) ⟨fun i=>rfl,_,rfl⟩ p k2 hnc w hM ?_).mono ?_
 ·show some (Value.int .i64 (hsAt mach n h0 i).st)=_
  rw[hst i hi]
 ·intro i W q c' hi hW hnc' hm
  have h:=zoR (w:=W) (p:=q) (c:=c') (hAt i).R (hAt i).pc.1 (hAt i).pc.2 ⟨hn4,hnc',hm,(hAt i).f⟩
  show Calls prog 14 #[.agg (hcs (hsAt mach n h0 i).R (hsAt mach n h0 i).pc (hsAt mach n h0 i).st (hsAt mach n h0 i).ca),.slice q n c'] W _
  rw[(hAt i).ca (hst i hi),hst i hi]
  exact h
 ·rintro e w' ⟨⟨lp,lc,p',cap,he,ho,hcap,hm⟩,hb⟩
  have e1:hsAt mach n h0 k=⟨r.R,r.pc,r.st,r.ca,r.f⟩:=by rw[<-hk,<-hn];exact hr.is.symm
  rw[e1]at he hm
  refine⟨⟨lp,lc,p',cap,he,?_,hm⟩,hb⟩
  have e2:coms (fun i=>cC (hsC mach n (hsAt mach n h0 i))) k=flat cml r.coms:=by
   rw[zcR,hr.coms,hk,hn]
  rw[e2]at ho
  obtain⟨a,c2,e3,h3⟩:=qQ ho (zev zhN _)
  injection e3 with e4 _ e5
  subst e4 e5
  exact h3.1
theorem zm7{w:World}{p:Option Addr}{n c:Nat}{f:Nat->Int}(h:LC w p n c 1 (bcs f n)):Mem w p n f:=fun h0=>by
 obtain⟨b,o,rfl,_,hc⟩:=h.sure h0
 exact⟨b,o,rfl,fun i hi=>hc i _ (zdH hi)⟩
theorem zm8{j:Nat}(hj:j<35):zsh (1+j)=hat (fun _=>0) 0 0 0 j:=by
 unfold zsh hat
 rw[if_neg (by omega)]
 by_cases h1:j<32
 ·rw[if_pos (by omega),if_pos h1]
 ·rcases(by omega:j=32\/j=33\/j=34)with rfl|rfl|rfl<;>rfl
theorem zcS(win phys wide:Int)(R:Nat->Int)(pc st ca:Int)(mp:Option Addr)(n mc:Nat)(sp:Option Addr)(sn sc:Nat)(cyc:Int)(w:World)(tb:Tab w)(tb2:Tab2 w)(hR:∀i,i<32->U32 (R i))(hpc:U32 pc)(f:Nat->Int)(hM:LC w mp n mc 1 (bcs f n))(hf:∀i,i<n->0<=f i/\f i<=255)(scr:List Int)(hscr:scr.length=sn)(hS:LC w sp sn sc 1 (ics scr))(hn:n<=140737488355328)(hsn:sn<=140737488355328):
  Calls prog 3 #[.agg #[.int .i64 win,.int .i64 phys,.int .i64 wide],hv R pc st ca,.slice mp n mc,.slice sp sn sc,.int .i64 cyc] w fun e w'=>e=.returned (.bool true)/\Below w.heap.size w w':=by
 show Calls prog 3 #[_,.agg (hcs R pc st ca),_,_,_] w _
 have CM:=fun W=>zjc (hcs R pc st ca) (R 0) st ca rfl rfl rfl W
 have CQ:=fun W=>zgK (hcs R pc st ca) (R 0) st ca rfl rfl rfl W
 obtain⟨hm,hhm⟩:∃b,b=(R 0==0&&(((st==0||st==1)&&ca==0)||(st==2&&decide (1<=ca)&&decide (ca<=6)))):=⟨_,rfl⟩
 rw[<-hhm]at CM CQ
 have HH:Hid ((prog.info? 27).map (·.size)=some (hcs R pc st ca).size):=qE
 have CW:=fun W=>zgb win phys wide (hcs R pc st ca) hm HH CQ mp n mc sp sn sc cyc hn hsn W
 by_cases hw:zE (mayC win phys wide) hm n sn cyc=0
 ·obtain⟨hcy,hwi,hph,hwd⟩:=zdS hw
  have hmn:hm=true/\n<=4096:=by
   have hC:=hw
   unfold zE at hC
   by_cases h:mayC win phys wide=false\/hm=false\/4096<n
   ·rw[if_pos h]at hC;omega
   ·refine⟨?_,by omega⟩
    cases hx:hm with
    |true=>rfl
    |false=>exact absurd (.inr (.inl hx)) h
  have H0:HsR n ⟨R,pc,st,ca,f⟩:=⟨hR,hpc,hf,fun h=>by
   have h:st=0:=h
   subst h
   rw[hmn.1]at hhm
   simp at hhm
   exact hhm.2⟩
  have G0:=zay (M:=mach) win phys wide n R pc st ca f scr hwi.1 hph.1 hph.2 hwd.1
  obtain⟨G,a,b,c,d⟩:=zcu zR cyc.toNat _ G0 (by show(0:Int)+_<=_;omega)
  have h0:(begin win phys wide n R pc st ca f scr).cyc=0:=rfl
  have CR:=fun W hW=>zmZ win phys wide (hcs R pc st ca) hm HH CM mp n mc sp sn sc cyc hn hsn W R pc st ca (yk R pc st ca) hw (tb.below hW tb.size) (tb2.below hW tb2.size) hR hpc f (hM.below (Nat.le_refl _) hW) hf scr hscr (hS.below (Nat.le_refl _) hW)
  have hrn:(runN mach cyc.toNat (begin win phys wide n R pc st ca f scr)).n=n:=d
  generalize runN mach cyc.toNat (begin win phys wide n R pc st ca f scr)=r at G a b c d CR hrn
  rw[hw]at CW
  rw[h0]at a b
  refine kN win phys wide (hcs R pc st ca) HH mp n mc sp sn sc cyc w 0 r.coms r.coms.length n (hcs r.R r.pc r.st r.ca) r.st r.f r.cyc r.tak r.bck rfl (by have:=G.most;omega) ⟨rfl,yn _ _ _ _⟩ (eqlH r.R r.pc r.st r.ca) (fun W hW=>?_) CW (.inr ⟨rfl,by omega,G.cyc,G.tak,G.bck,fun h=>by have:=b h;omega,rfl,fun W hW=>?_⟩)
  ·refine(CR W hW).mono ?_
   rintro e w' ⟨⟨L,rfl,hU,⟨p',c',hMm,hB⟩,hG⟩,hb⟩
   obtain⟨p,c,hLc⟩:=hU.slice
   rw[hrn]at hMm hB
   refine⟨⟨_,p,c,p',c',rfl,zf _ _,zm2 hU ⟨p',c',by rw[hrn];exact hMm⟩,?_,fun j v hv=>?_,?_,?_,?_,?_,?_,?_,hB.hm⟩,hb⟩
   ·rw[zp _ (by omega)]
    show some L.c=_
    rw[hLc]
   ·have hj:j<35:=(List.getElem?_eq_some_iff.1 hv).1
    rw[zp _ (by omega)]
    show some (kat r L (3+(1+j)))=_
    rw[show 3+(1+j)=4+j by omega,zbs _ L j hj]
    rw[yk,Array.getElem?_toList,zp _ hj]at hv
    exact hv
   ·rw[zp _ (by omega)];rfl
   ·rw[zp _ (by omega)]
    show some L.m=_
    rw[hMm]
   ·rw[zp _ (by omega)];rfl
   ·rw[zp _ (by omega)];rfl
   ·rw[zp _ (by omega)];rfl
   ·rw[hLc]at hU
    exact hU.lc
  ·exact zm6 G.ref n hrn hmn.2 H0 _ rfl (by have:=G.most;omega) mp mc hM.le W ((zm7 hM).below hW)
 ·refine kN win phys wide (hcs R pc st ca) HH mp n mc sp sn sc cyc w (zE (mayC win phys wide) hm n sn cyc) [] 0 0 (hcs (fun _=>0) 0 0 0) 0 (fun _=>0) 0 0 0 rfl (by omega) ⟨rfl,yn _ _ _ _⟩ (eqlH _ _ _ _) (fun W hW=>?_) CW (.inl ⟨hw,rfl,rfl,rfl,rfl,rfl,by kernel_rfl⟩)
  refine(zga win phys wide (hcs R pc st ca) hm HH CM mp n mc sp sn sc cyc hn hsn W hw).mono fun e w' ⟨he,hB⟩=>⟨⟨_,none,0,none,0,he,zf _ _,je _ _ fun i _=>zdR i,?_,fun j v hv=>?_,?_,?_,?_,?_,?_,xi _ _,fun h=>absurd h (by omega)⟩,hB⟩
  ·rw[zp _ (by omega)];rfl
  ·have hj:j<35:=(List.getElem?_eq_some_iff.1 hv).1
   rw[zp _ (by omega),zm8 hj]
   rw[yk,Array.getElem?_toList,zp _ hj]at hv
   exact hv
  ·rw[zp _ (by omega)];rfl
  ·rw[zp _ (by omega)];rfl
  ·rw[zp _ (by omega)];rfl
  ·rw[zp _ (by omega)];rfl
  ·rw[zp _ (by omega)];rfl
end Go.Proofs.YtpiohehijkpghabGreatDoor.Co
