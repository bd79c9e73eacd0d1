/- A core that starts one: the program. -/
import Derived.Test.YtpiohehijkpghabGreatDoorS39
import Derived.Test.YtpiohehijkpghabGreatDoorS41
import Derived.Test.YtpiohehijkpghabGreatDoorS09
set_option maxRecDepth 20000
set_option maxHeartbeats 6000000
set_option linter.unusedSimpArgs false
set_option linter.unusedVariables false
open Go.Proofs.Tryz
namespace Go.Proofs.YtpiohehijkpghabGreatDoor.Co
open Go.RowKit
open Hy
open Wi Od Re.Hy
open Gu.Hy (Tb tcs)
theorem zf2(a:Option Addr)(n c:Nat)(hn:n<=1000000)(l:List Int)(x:Int)(w:World)(hL:Hid (LC w a n c 1 (ics l))):
  Calls prog 67 #[.slice a n c,.int .i64 x] w fun e w'=>(∃r:Int,e=.returned (.int .i64 r)/\decide (0<=r)=decide (x∈l))/\Below w.heap.size w w':=by
 have hlen:Hid (l.length=n):=by have:=hL.out.len;rw[qM]at this;show _=_;omega
 go_enter func67,ntmps67
 go_wp2_with fail
 go_loopw [8] (fun i wr=>∃k:Nat,k<=n/\i=.int .i64 (k:Int)/\Hid (x∉l.take k)/\Hid (Below w.heap.size w wr))
  (fun i _=>n-(intOf i).toNat)
 case atStart=>exact⟨0,by omega,rfl,(fun h=>by simp at h),Below.refl _ _⟩
 case round=>
  obtain⟨k,hk,rfl,HX,HB⟩:=hrel
  by_cases hlt:k<n
  ·obtain⟨q,hq⟩:∃q,l[k]?=some q:=⟨_,List.getElem?_eq_getElem (by rw[hlen.out];exact hlt)⟩
   obtain⟨bb,o,rfl,hb,hc⟩:=hL.out.sure (by omega)
   have ck:wr.cell? ⟨bb,o+k,none⟩=some (.int .i64 q):=(HB.out.cell (p:=⟨bb,o+k,none⟩) hb).trans (by simpa using hc k _ (jE hq))
   have HQ:Hid (l[k]?=some q):=hq
   clear hc hq
   by_cases e:x=q
   ·subst e
    go_wp2_with fail
    go_ret
    refine⟨⟨_,rfl,?_⟩,HB.out⟩
    rw[decide_eq_true (by omega),decide_eq_true (List.mem_of_getElem? HQ.out)]
   ·have e':(x==q)=false:=beq_eq_false_iff_ne.2 e
    have HN:Hid (x∉l.take (k+1)):=by
     show¬_
     rw[List.take_add_one,HQ.out]
     intro h
     rcases List.mem_append.1 h with h|h
     ·exact HX.out h
     ·simp at h;exact e h
    clear e
    go_wp2_with fail
    exact⟨⟨k+1,by omega,by go_num,HN,HB⟩,by simp[intOf];omega⟩
  ·have hkn:k=n:=by omega
   subst hkn
   have HN:Hid (x∉l):=by
    show¬_
    have:=HX.out
    rw[List.take_of_length_le (by rw[hlen.out];exact Nat.le_refl _)]at this
    exact this
   go_wp2_with fail
   go_ret
   refine⟨⟨_,rfl,?_⟩,HB.out⟩
   rw[decide_eq_false (by omega),decide_eq_false HN.out]
theorem zbE(a:Option Addr)(n c:Nat)(hn:n<=1000000)(l:List Int)(x:Int)(w:World)(hL:Hid (LC w a n c 1 (ics l))):
  Calls prog 42 #[.slice a n c,.int .i64 x] w fun e w'=>e=.returned (.bool (decide (x∈l)))/\Below w.heap.size w w':=by
 have C:=zf2 a n c hn l x w hL
 go_enter func42,ntmps42
 go_wp2_with fail
 refine C.mono ?_
 rintro e w' ⟨⟨r,rfl,hr⟩,hb⟩
 have HR:Hid (decide (0<=r)=decide (x∈l)):=hr
 clear hr
 go_wp2_with fail
 go_ret
 exact⟨by rw[<-HR.out];rfl,hb⟩
theorem yq:∀args w,(callFunc 41 args).run prog w=.ok (.enter 41 args) w:=enters_of func41 (by kernel_rfl) rfl
theorem xo(B:Nat)(a:Option Addr)(n c:Nat)(hn:n<=1000000)(l:List Int)(W:World)(o:Ac)(hc':W.cell? ⟨B,0,none⟩=some (.slice a n c))(hL:LC W a n c 1 (ics l)):Calls prog 41 #[acv o,.pointer (some ⟨B,0,none⟩)] W fun e w'=>e=.returned (.bool (decide (o.seq∈l)))/\Below W.heap.size W w':=by
 have hB':B<W.heap.size:=World.block_lt_of_cell? _ _ hc'
 have C:Hid (∀V,Below W.heap.size W V->Calls prog 42 #[.slice a n c,.int .i64 o.seq] V fun e w'=>e=.returned (.bool (decide (o.seq∈l)))/\Below V.heap.size V w'):=fun V hV=>zbE a n c hn l o.seq V (hL.below (Nat.le_refl _) hV)
 obtain⟨d,hd⟩:∃d,d=decide (o.seq∈l):=⟨_,rfl⟩
 rw[<-hd]at C⊢
 clear hd hL
 go_enter func41,ntmps41
 go_wp2_with fail
 refine(C.out _ ((Below.refl _ _).alloc (Nat.le_refl _) _)).mono ?_
 rintro e w' ⟨rfl,hb⟩
 have HB:Hid (Below W.heap.size W w'):=((Below.refl _ _).alloc (Nat.le_refl _) _).trans (hb.mono (by simp))
 clear hb C
 go_wp2_with fail
 go_ret
 exact⟨rfl,HB.out⟩
theorem zmT(i:In)(pc a b:Int)(n:Nat)(f:Nat->Int)(h:ldn i.op=0):allW n f i pc a b=mach.dow i pc a b n:=by
 unfold allW
 rw[if_neg (by rw[h];exact fun h=>h rfl)]
 rfl
theorem cDo{N:Nat}{w:World}{b:Nat}{s:Cr}{L:Sls}(S:St N w b s L)(i:In)(hi:InOk i)(h0:ldn i.op=0)(pc x y:Int)(hp:U32 pc)(hx:U32 x)(hy:U32 y)(W:World)(hW:Below w.heap.size w W):
  Calls prog 75 #[ivI i,.int .u32 pc,.int .u32 x,.int .u32 y,L.m] W fun e w'=>e=.returned (cvC (mach.dow i pc x y s.n))/\Below W.heap.size W w':=by
 have S':=S.below hW
 obtain⟨p,cap,em,hB⟩:=S'.its.im
 rw[em,<-zmT i pc x y s.n s.f h0]
 exact zly i hi pc x y hp.1 hp.2 hx.1 hx.2 hy.1 hy.2 W hB S'.its.tb2
theorem zpg{s:Cr}{l1 l2:List Dg}{o:Dg}(hu:s.under=l1++o::l2)(hr:Rise s.under)(g:Dg->Dg):({s with under:=s.under.set l1.length (g o)}:Cr)={s with under:=putO s.under o.seq g}:=by rw[(zdJ hu hr g).1]
theorem xe{N:Nat}{w:World}{b:Nat}{s:Cr}{L:Sls}(S:St N w b s L){m:Nat->Int}{K:Int}(A:Al mach K s m)(hK:K<=8000000){l1 l2:List Dg}{o:Dg}(hu:s.under=l1++o::l2)(h1:o.st=0):
  Calls prog 50 #[.pointer (some ⟨b,0,none⟩),.int .i64 (l1.length:Int)] w fun e w'=>e=.returned (.tuple #[])/\∃L',St N w' b (sta1 mach s o) L'/\To b w L w' L':=by
 have ho:o∈s.under:=by rw[hu];simp
 have hin:=zkU jx A.inv ho (by omega)
 have hdr:=A.rg.und o ho
 obtain⟨ra0,rb0,_,_⟩:=kJ zR A.inv ho A.rg.phys
 have hwa:=A.rg.wd o.a
 have hwb:=A.rg.wd o.b
 obtain⟨r,hrr⟩:∃r,r=sta1 mach s o:=⟨_,rfl⟩
 rw[<-hrr]
 have HR:Hid (r=if ldn o.i.op≠0 then{s with under:=putO s.under o.seq (fun o=>{o with st:=1})}else finish s o (mach.dow o.i o.pc (s.wd o.a) (s.wd o.b) s.n)):=hrr
 have hjo:s.under[l1.length]?=some o:=by rw[hu];simp
 have hjl:l1.length<s.under.length:=(List.getElem?_eq_some_iff.1 hjo).1
 have HP1:Hid (({s with under:=s.under.set l1.length {o with st:=1}}:Cr)={s with under:=putO s.under o.seq (fun o=>{o with st:=1})}):=zpg hu A.inv.rise (fun o=>{o with st:=1})
 have hln:=A.len
 have HFN:Hid (ldn o.i.op=0->∀W,(St N W b s L)->Calls prog 72 #[.pointer (some ⟨b,0,none⟩),.int .i64 (l1.length:Int),cvC (mach.dow o.i o.pc (s.wd o.a) (s.wd o.b) s.n)] W fun e w'=>e=.returned (.tuple #[])/\∃L',St N w' b (finish s o (mach.dow o.i o.pc (s.wd o.a) (s.wd o.b) s.n)) L'/\To b W L w' L'):=fun h0 W SW=>by
  obtain⟨l1',l2',hu',hloc⟩:=xk A.inv.ch ho
  have hz:(fet mach s.n (fE s.f l1') (pE s.pc l1')).2=0:=Classical.byContradiction fun hz=>by have:=(hloc.bad hz).1;omega
  obtain⟨x,hx⟩:=vn hz
  rw[<-hloc.ins]at hx
  have hcm:=yD zR hx s.n s.f o.pc (s.wd o.a) (s.wd o.b)
  unfold comC at hcm
  rw[if_neg (by rw[h0];exact fun h=>h rfl)]at hcm
  exact xV SW A hK hu (by omega) hcm (jx.dow _ _ _ _ hin hdr.pc hwa hwb)
 have HDO:Hid (ldn o.i.op=0->∀W,St N W b s L->Calls prog 75 #[ivI o.i,.int .u32 o.pc,.int .u32 (s.wd o.a),.int .u32 (s.wd o.b),L.m] W fun e w'=>e=.returned (cvC (mach.dow o.i o.pc (s.wd o.a) (s.wd o.b) s.n))/\Below W.heap.size W w'):=fun h0 W SW=>cDo SW o.i hin h0 o.pc _ _ hdr.pc hwa hwb W (Below.refl _ _)
 obtain⟨j,hj⟩:∃j,j=l1.length:=⟨_,rfl⟩
 rw[<-hj]at hjo hjl HP1 HFN⊢
 obtain⟨x,hx⟩:∃x:Nat,o.a=(x:Int):=Int.eq_ofNat_of_zero_le ra0.1
 obtain⟨y,hy⟩:∃y:Nat,o.b=(y:Int):=Int.eq_ofNat_of_zero_le rb0.1
 have hx1:x<96:=by have:=ra0.2;omega
 have hy1:y<96:=by have:=rb0.2;omega
 rw[hx,hy]at HR HFN HDO
 have HXY:Hid (o.a=(x:Int)/\o.b=(y:Int)):=⟨hx,hy⟩
 obtain⟨D,hD⟩:∃D,D=(dgl o).toArray:=⟨_,rfl⟩
 have HD:Hid (D=(dgl o).toArray):=hD
 have HI:Hid ((prog.info? 97).map (·.size)=some D.size/\28=D.size/\D.all (·.oneCell')=true):=by rw[hD];exact⟨zN o,rfl,jd o⟩
 clear hrr hu h1 A ho hj hD hin hdr ra0 rb0 hwa hwb hx hy
 go_enter func50,ntmps50
 obtain⟨ug,uo,uc,euv,huc,_,hug,hucs,_⟩:=S.its.iu.at (by omega)
 have k334:w.cell? ⟨b,334,none⟩=some (.slice (some ⟨ug,uo,none⟩) s.under.length uc):=(zb S.row (by omega)).trans (congrArg some euv)
 have HRg:Hid (w.rangeAt ug (uo+j*28) (dgl o)):=by
  intro i v hv
  rw[Nat.add_assoc]
  exact hucs _ _ (qJ zP hjo hv)
 have HEU:Hid (L.u=.slice (some ⟨ug,uo,none⟩) s.under.length uc):=euv
 obtain⟨un,hun⟩:∃un,un=s.under.length:=⟨_,rfl⟩
 rw[<-hun]at k334 HEU huc hjl hln
 have j0:0<=(j:Int):=by omega
 have j1:(j:Int)<(un:Int):=by omega
 have hjo':Hid (s.under[j]?=some o):=hjo
 clear euv hucs hug hun hjo
 go_upto_region 1 with(first|(refine wpList_load_mid rfl 97 _ rfl ug (uo+j*28) rfl (dgl o) _ HRg.out underlying97 rfl qv ?_;rw[<-HD.out])|(refine wpList_store_row rfl 97 _ _ rfl _ _ rfl rfl 97 _ (heap_alloc_new _ _) HI.out.1 HI.out.2.1 HI.out.2.2 ?_;rw[World.setRow_alloc_new]))
 refine Wi.zA (Φ:=fun W=>Code.wp _ _ _ _ W) ?_
 intro V1 h1 hb
 have B1:Hid (Bx V1 w.heap.size o):=by show _=_;rw[h1,HD.out]
 have S1:Hid (St N V1 b s L):=S.below hb
 have T1:Hid (To b w L V1 L):=ze L hb
 clear h1 hb S k334 HRg
 generalize w.heap.size=z at*
 have k334:V1.cell? ⟨b,334,none⟩=some (.slice (some ⟨ug,uo,none⟩) un uc):=(zb S1.out.row (by omega)).trans (congrArg some HEU.out)
 have c2:V1.cell? ⟨z,2,none⟩=some (.int .i64 o.i.op):=zq B1.out 2 rfl
 have CL:=fun W=>jg o.i.op W
 have l0:=yu o.i.op
 obtain⟨ld,hld⟩:∃ld,ld=ldn o.i.op:=⟨_,rfl⟩
 rw[<-hld]at CL HR HFN HDO l0
 clear hld HD HI
 go_wp2_with fail
 refine(CL _).mono ?_
 rintro e V2 ⟨rfl,hk⟩
 subst hk
 clear CL
 by_cases h0:ld=0
 ·have hr:=HR.out
  rw[if_neg (by rw[h0];exact fun h=>h rfl)]at hr
  have HR2:Hid (r=finish s o (mach.dow o.i o.pc (s.wd (x:Int)) (s.wd (y:Int)) s.n)):=hr
  subst h0
  have HDO2:=HDO.out rfl
  have HFN2:=HFN.out rfl
  have HDO3:Hid _:=HDO2
  have HFN3:Hid _:=HFN2
  clear hr HR HDO HFN HDO2 HFN2 HP1 l0
  have cx:=S1.out.wrd x hx1
  have cy:=S1.out.wrd y hy1
  obtain⟨wx,hwx⟩:∃wx,wx=s.wd (x:Int):=⟨_,rfl⟩
  obtain⟨wy,hwy⟩:∃wy,wy=s.wd (y:Int):=⟨_,rfl⟩
  rw[<-hwx]at cx HDO3 HFN3 HR2
  rw[<-hwy]at cy HDO3 HFN3 HR2
  clear hwx hwy
  obtain⟨pm,cm,em,hm'⟩:=S1.out.its.im
  have k39:V2.cell? ⟨b,39,none⟩=some (.slice pm s.n cm):=(zb S1.out.row (by omega)).trans (congrArg some em)
  rw[em]at HDO3
  clear hm' em
  have c8:V2.cell? ⟨z,8,none⟩=some (.int .i64 (x:Int)):=zq B1.out 8 (by rw[<-HXY.out.1];rfl)
  have c9:V2.cell? ⟨z,9,none⟩=some (.int .i64 (y:Int)):=zq B1.out 9 (by rw[<-HXY.out.2];rfl)
  have c1:V2.cell? ⟨z,1,none⟩=some (.int .u32 o.pc):=zq B1.out 1 rfl
  have x0:0<=(x:Int):=by omega
  have x1:(x:Int)<96:=by omega
  have y0:0<=(y:Int):=by omega
  have y1:(y:Int)<96:=by omega
  obtain⟨cm0,hcm0⟩:∃c0,c0=mach.dow o.i o.pc wx wy s.n:=⟨_,rfl⟩
  rw[<-hcm0]at HDO3 HFN3 HR2
  clear hcm0
  go_upto_region 3 with fail
  refine zx (S:=fun w'=>w'.rangeAt z 2 ((ivL o.i).toList)/\w'.cell? ⟨z,1,none⟩=some (.int .u32 o.pc)/\w'.cell? ⟨z,8,none⟩=some (.int .i64 (x:Int))/\w'.cell? ⟨z,9,none⟩=some (.int .i64 (y:Int))/\w'.cell? ⟨b,141+x,none⟩=some (.int .u32 wx)/\w'.cell? ⟨b,141+y,none⟩=some (.int .u32 wy)/\w'.cell? ⟨b,39,none⟩=some (.slice pm s.n cm)) [25] (by kernel_rfl) (⟨xb B1.out,c1,c8,c9,cx,cy,k39⟩) (fun hH=>?_)
  refine tU 0 (.pointer (some ⟨b,0,none⟩)) rfl hH ?_;try go_simp
  refine tU 1 (.int .i64 (j:Int)) rfl hH ?_;try go_simp
  refine tU 2 (.pointer (some ⟨z,2,none⟩)) rfl hH ?_;try go_simp
  refine tS 3 (.agg ((ivL o.i).toList).toArray) rfl (yieldsIf_load_mid (by rfl) 77 _ rfl _ _ rfl ((ivL o.i).toList) _ (fun wz hSw=>hSw.1) underlying77 rfl (qL _)) hH ?_;try go_simp
  refine tU 4 (.pointer (some ⟨z,1,none⟩)) rfl hH ?_;try go_simp
  refine tS 5 (.int .u32 o.pc) rfl (Or.inl ⟨by rfl,by intro wz hSw;have hc:=hSw.2.1;go_simp⟩) hH ?_;try go_simp
  refine tU 6 (.pointer (some ⟨b,0,none⟩)) rfl hH ?_;try go_simp
  refine tU 7 (.pointer (some ⟨z,8,none⟩)) rfl hH ?_;try go_simp
  refine tU 9 (.pointer (some ⟨b,0,none⟩)) rfl hH ?_;try go_simp
  refine tU 10 (.pointer (some ⟨b,141,none⟩)) rfl hH ?_;try go_simp
  refine tU 13 (.pointer (some ⟨b,0,none⟩)) rfl hH ?_;try go_simp
  refine tU 14 (.pointer (some ⟨z,9,none⟩)) rfl hH ?_;try go_simp
  refine tU 16 (.pointer (some ⟨b,0,none⟩)) rfl hH ?_;try go_simp
  refine tU 17 (.pointer (some ⟨b,141,none⟩)) rfl hH ?_;try go_simp
  refine tU 20 (.pointer (some ⟨b,0,none⟩)) rfl hH ?_;try go_simp
  refine tU 21 (.pointer (some ⟨b,0,none⟩)) rfl hH ?_;try go_simp
  refine tU 22 (.pointer (some ⟨b,3,none⟩)) rfl hH ?_;try go_simp
  refine tU 23 (.pointer (some ⟨b,39,none⟩)) rfl hH ?_;try go_simp
  refine tS 24 (.slice pm s.n cm) rfl (Or.inl ⟨by rfl,by intro wz hSw;have hc:=hSw.2.2.2.2.2.2;go_simp⟩) hH ?_;try go_simp
  refine rZ [8,15] ?_
  refine(zu.cons rfl (fun K hK=>?_) (zu.cons rfl (fun K hK=>?_) zu.nil))
  ·have hc:=hH.2.2.1
   go_simp
   clear hc
   refine hK.out _ _ (hH) (fun hN=>?_)
   clear hK K hH
   have hH:=hN
   clear hN
   try go_simp
   refine tU 11 (.pointer (some ⟨b,141+x,none⟩)) rfl hH ?_;try go_simp
   refine tS 12 (.int .u32 wx) rfl (Or.inl ⟨by rfl,by intro wz hSw;have hc:=hSw.2.2.2.2.1;go_simp⟩) hH ?_;try go_simp
   refine zC 15 rfl (fun K hK=>?_)
   have hc:=hH.2.2.2.1
   go_simp
   clear hc
   refine hK.out _ _ (hH) (fun hN=>?_)
   clear hK K hH
   have hH:=hN
   clear hN
   try go_simp
   refine tU 18 (.pointer (some ⟨b,141+y,none⟩)) rfl hH ?_;try go_simp
   refine tS 19 (.int .u32 wy) rfl (Or.inl ⟨by rfl,by intro wz hSw;have hc:=hSw.2.2.2.2.2.1;go_simp⟩) hH ?_;try go_simp
   refine zL 25 rfl (fun K hK=>?_)
   go_simp
   refine(HDO3.out _ S1.out.dr).mono ?_
   rintro e V4 ⟨rfl,hk4⟩
   have HK4:Hid (Below V2.heap.size V2 V4):=zi hk4 (Nat.le_refl _)
   have S4:Hid (St N V4 b s L):=S1.out.below HK4.out
   go_wp2_with fail
   refine hK.out _ _ ?_
   clear hK K
   try go_simp
   refine zL 26 rfl (fun K hK=>?_)
   go_simp
   refine(HFN3.out _ S4.out).mono ?_
   rintro e V5 ⟨rfl,L5,u1,u2⟩
   rw[<-HR2.out]at u1
   have S5:Hid (St N V5 b r L5):=u1
   have T5:Hid (To b w L V5 L5):=(T1.out.trans (ze L HK4.out)).trans u2
   clear u1 u2
   go_wp2_with fail
   refine hK.out _ _ ?_
   clear hK K
   try go_simp
   refine zJ (by kernel_rfl) ?_ _
   clear hH
   go_wp2_with fail
   refine bodyPost_end (results_none rfl _ _ _) rfl ⟨rfl,L5,S5.out,T5.out⟩
  ·have hc:=hH.2.2.2.1
   go_simp
   clear hc
   refine hK.out _ _ (hH) (fun hN=>?_)
   clear hK K hH
   have hH:=hN
   clear hN
   try go_simp
   refine tU 18 (.pointer (some ⟨b,141+y,none⟩)) rfl hH ?_;try go_simp
   refine tS 19 (.int .u32 wy) rfl (Or.inl ⟨by rfl,by intro wz hSw;have hc:=hSw.2.2.2.2.2.1;go_simp⟩) hH ?_;try go_simp
   refine zC 8 rfl (fun K hK=>?_)
   have hc:=hH.2.2.1
   go_simp
   clear hc
   refine hK.out _ _ (hH) (fun hN=>?_)
   clear hK K hH
   have hH:=hN
   clear hN
   try go_simp
   refine tU 11 (.pointer (some ⟨b,141+x,none⟩)) rfl hH ?_;try go_simp
   refine tS 12 (.int .u32 wx) rfl (Or.inl ⟨by rfl,by intro wz hSw;have hc:=hSw.2.2.2.2.1;go_simp⟩) hH ?_;try go_simp
   refine zL 25 rfl (fun K hK=>?_)
   go_simp
   refine(HDO3.out _ S1.out.dr).mono ?_
   rintro e V4 ⟨rfl,hk4⟩
   have HK4:Hid (Below V2.heap.size V2 V4):=zi hk4 (Nat.le_refl _)
   have S4:Hid (St N V4 b s L):=S1.out.below HK4.out
   go_wp2_with fail
   refine hK.out _ _ ?_
   clear hK K
   try go_simp
   refine zL 26 rfl (fun K hK=>?_)
   go_simp
   refine(HFN3.out _ S4.out).mono ?_
   rintro e V5 ⟨rfl,L5,u1,u2⟩
   rw[<-HR2.out]at u1
   have S5:Hid (St N V5 b r L5):=u1
   have T5:Hid (To b w L V5 L5):=(T1.out.trans (ze L HK4.out)).trans u2
   clear u1 u2
   go_wp2_with fail
   refine hK.out _ _ ?_
   clear hK K
   try go_simp
   refine zJ (by kernel_rfl) ?_ _
   clear hH
   go_wp2_with fail
   refine bodyPost_end (results_none rfl _ _ _) rfl ⟨rfl,L5,S5.out,T5.out⟩
 ·have hr:=HR.out
  rw[if_pos h0,<-HP1.out]at hr
  have HR2:Hid (r={s with under:=s.under.set j {o with st:=1}}):=hr
  have hgt:(0:Int)<ld:=by omega
  clear hr HR HDO HFN HP1 l0 h0
  have c7:V2.cell? ⟨ug,uo+j*28+7,none⟩=some (.int .i64 o.st):=by
   obtain⟨g',o',cap',ev3,_,_,_,hcs,_⟩:=S1.out.its.iu.at (by have:=(List.getElem?_eq_some_iff.1 hjo'.out).1;omega)
   obtain⟨rfl,rfl⟩:ug=g'/\uo=o':=by rw[HEU.out]at ev3;injection ev3 with h1 _ _;injection h1 with h1;injection h1 with h1 h2;exact⟨h1,h2⟩
   rw[Nat.add_assoc]
   exact hcs _ _ (qJ zP hjo'.out rfl)
  obtain⟨g',o',cap',ev',hth,s2,t2⟩:=S1.out.putU (y:={o with st:=1}) (j:=7) (news:=[.int .i64 1]) hjo'.out (by decide) rfl (by intro u hu;simp at hu;subst hu;rfl)
  obtain⟨rfl,rfl⟩:ug=g'/\uo=o':=by rw[HEU.out]at ev';injection ev' with h1 _ _;injection h1 with h1;injection h1 with h1 h2;exact⟨h1,h2⟩
  rw[<-Nat.add_assoc]at hth s2 t2
  have f7:V2.frozen? ⟨ug,uo+j*28+7,none⟩=false:=(hth 0 (by decide)).2
  rw[<-HR2.out]at s2
  have S3:Hid (St N (V2.setCell ⟨ug,uo+j*28+7,none⟩ (.int .i64 1)) b r L):=s2
  have T3:Hid (To b w L (V2.setCell ⟨ug,uo+j*28+7,none⟩ (.int .i64 1)) L):=T1.out.trans t2
  clear hth s2 t2 ev'
  go_wp2_with fail
  refine bodyPost_ret (results_none rfl _ _ _) rfl ⟨rfl,L,S3.out,T3.out⟩
end Go.Proofs.YtpiohehijkpghabGreatDoor.Co
