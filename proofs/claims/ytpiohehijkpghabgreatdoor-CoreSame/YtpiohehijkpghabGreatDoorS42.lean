/- A core that commits one: the program. -/
import Derived.Test.YtpiohehijkpghabGreatDoorS41
import Derived.Test.YtpiohehijkpghabGreatDoorS09
set_option maxRecDepth 20000
set_option maxHeartbeats 8000000
set_option linter.unusedSimpArgs false
set_option linter.unusedVariables false
open Go.Proofs.Tryz
namespace Go.Proofs.YtpiohehijkpghabGreatDoor.Co
open Go.RowKit
open Hy
open Wi Od Re.Hy
open Gu.Hy (Tb tcs)
theorem zdP{t:Tb}(pc g:Int)(tk:Bool)(hp:U32 pc)(w:World):Calls prog 92 #[.agg (rowOf (tat t) 64),.int .u32 pc,.bool tk,.int .u32 g] w fun e w'=>e=.returned (.agg (rowOf (tat (lbM t pc tk g)) 64))/\Below w.heap.size w w':=by
 rw[<-yl,<-yl]
 exact Gu.gB t pc g hp.1 hp.2 tk w
theorem zmR{t:Tb}(ht:Gu.TbOk t)(pc v:Int)(hp:U32 pc)(hv:U32 v)(w:World):Calls prog 93 #[.agg (rowOf (tat t) 64),.int .u32 pc,.int .u32 v] w fun e w'=>e=.returned (.agg (rowOf (tat (lvM t pc v)) 64))/\Below w.heap.size w w':=by
 rw[<-yl,<-yl]
 exact Gu.gV t ht pc v hp.1 hp.2 hv.1 hv.2 w
theorem zmS(t:Tb)(i:Nat):(tat t i).oneCell'=true:=by
 unfold tat
 split
 ·split<;>rfl
 ·split
  ·rfl
  ·split
   ·rfl
   ·split<;>rfl
theorem zbC(t:Tb):(rowOf (tat t) 64).all (·.oneCell')=true:=je _ _ fun i _=>zmS t i
theorem zbD(t:Tb):(prog.info? 51).map (·.size)=some (rowOf (tat t) 64).size:=by rw[zf];exact Gu.yd
theorem Bx.cm{w:World}{q:Nat}{o:Dg}(h:Bx w q o):w.rangeAt q 17 (cC o.c).toList:=zeE h fun i v hi=>by
 have hl:i<11:=by have:=(List.getElem?_eq_some_iff.1 hi).1;simpa[cC]using this
 rcases(by omega:i=0\/i=1\/i=2\/i=3\/i=4\/i=5\/i=6\/i=7\/i=8\/i=9\/i=10)with rfl|rfl|rfl|rfl|rfl|rfl|rfl|rfl|rfl|rfl|rfl<;>exact hi
theorem zkZ{i:In}(h:trn i=true):ldn i.op=0:=by
 have h':4<=i.op/\i.op<=10:=by simpa[trn]using h
 unfold ldn
 rw[if_neg (by omega),if_neg (by omega),if_neg (by omega)]
theorem xF{N:Nat}{w:World}{b:Nat}{s:Cr}{L:Sls}(S:St N w b s L)(ht:Gu.TbOk s.tb)(o:Dg)(hp:U32 o.pc)(hc:CmR o.c):
  Calls prog 65 #[.pointer (some ⟨b,0,none⟩),dgv o] w fun e w'=>e=.returned (.tuple #[])/\St N w' b {s with tb:=learn mach s.tb o} L/\To b w L w' L:=by
 obtain⟨r,hr⟩:∃r,r=learn mach s.tb o:=⟨_,rfl⟩
 rw[<-hr]
 obtain⟨E,hE⟩:∃E,E=(cC o.c).toList.toArray:=⟨_,rfl⟩
 have HE:Hid (E=(cC o.c).toList.toArray):=hE
 have HI:Hid ((prog.info? 64).map (·.size)=some E.size/\11=E.size/\E.all (·.oneCell')=true):=by rw[hE];exact⟨za,rfl,vA o.c⟩
 have CT:=fun W=>zaz o.i W
 have CL:=fun W=>jg o.i.op W
 obtain⟨y,hy⟩:∃y,IntKind.u32.wrap (o.pc+4)=y:=⟨_,rfl⟩
 have ey:(o.pc+4)%4294967296=y:=by rw[<-hy,zfW]
 have HTK:Hid (∀tk,tk=(decide (o.i.op=4)||!decide (o.c.next=y))->r=learn mach s.tb o/\(trn o.i=true->r=lbM s.tb o.pc tk o.c.next)/\(trn o.i=false->r=if ldn o.i.op≠0/\o.c.rd≠0 then lvM s.tb o.pc o.c.val else s.tb)):=fun tk htk=>by
  refine⟨hr,fun h=>?_,fun h=>?_⟩
  ·rw[hr]
   unfold learn
   simp only[h,if_true]
   rw[zkZ h,if_neg (by simp),ey,<-htk]
   rfl
  ·rw[hr]
   unfold learn
   simp only[h,Bool.false_eq_true,if_false]
   rfl
 clear hr hE ey
 go_enter func65,ntmps65
 go_upto_region 1 with fail
 refine Wi.zA (Φ:=fun W=>Code.wp _ _ _ _ W) ?_
 intro V hV hVb
 have BV:Hid (Bx V w.heap.size o):=hV
 have SV:Hid (St N V b s L):=S.below hVb
 have TV:Hid (To b w L V L):=ze L hVb
 have hzo:Hid (¬own b L w.heap.size):=fun h=>by have:=qR S h;omega
 clear hV hVb S
 generalize w.heap.size=z at*
 go_upto_region 2 with(first|(refine wpList_load_mid rfl 64 _ rfl z 17 rfl (cC o.c).toList _ BV.out.cm underlying64 rfl (vJ o.c) ?_;rw[<-HE.out])|(refine wpList_store_row rfl 64 _ _ rfl _ _ rfl rfl 64 _ (heap_alloc_new _ _) HI.out.1 HI.out.2.1 HI.out.2.2 ?_;rw[World.setRow_alloc_new]))
 refine Wi.zA (Φ:=fun W=>Code.wp _ _ _ _ W) ?_
 intro V1 h1 hb
 have C1:Hid (Cb V1 V.heap.size o.c):=by show _=_;rw[h1,HE.out]
 have B1:Hid (Bx V1 z o):=BV.out.below hb
 have S1:Hid (St N V1 b s L):=SV.out.below hb
 have T1:Hid (To b w L V1 L):=TV.out.trans (ze L hb)
 clear h1 hb BV SV TV HI HE
 generalize V.heap.size=p at*
 go_wp2_with(refine wpList_load_mid rfl 77 _ rfl z 2 rfl (ivL o.i).toList _ (xb B1.out) underlying77 rfl (qL _) ?_)
 refine(CT _).mono ?_
 rintro e V2 ⟨rfl,hk2⟩
 have C2:Hid (Cb V2 p o.c):=C1.out.below hk2
 have B2:Hid (Bx V2 z o):=B1.out.below hk2
 have S2:Hid (St N V2 b s L):=S1.out.below hk2
 have T2:Hid (To b w L V2 L):=T1.out.trans (ze L hk2)
 clear hk2 C1 B1 S1 T1 CT
 have c2:V2.cell? ⟨z,2,none⟩=some (.int .i64 o.i.op):=zq B2.out 2 rfl
 have c1:V2.cell? ⟨z,1,none⟩=some (.int .u32 o.pc):=zq B2.out 1 rfl
 have n1:V2.cell? ⟨p,1,none⟩=some (.int .u32 o.c.next):=qT C2.out 1 rfl
 have l0:=yu o.i.op
 cases htr:trn o.i with
 |true=>
  have hl0:=zkZ htr
  rw[hl0]at CL
  have HTK2:Hid (∀tk,tk=(decide (o.i.op=4)||!decide (o.c.next=y))->r=lbM s.tb o.pc tk o.c.next):=fun tk h=>(HTK.out tk h).2.1 htr
  clear HTK htr hl0 l0
  obtain⟨op,hop⟩:∃op,op=o.i.op:=⟨_,rfl⟩
  obtain⟨nx,hnx⟩:∃nx,nx=o.c.next:=⟨_,rfl⟩
  rw[<-hop]at c2 HTK2 CL
  rw[<-hnx]at n1 HTK2
  have HOP:Hid (op=o.i.op):=hop
  have HNX:Hid (nx=o.c.next):=hnx
  clear hop hnx
  by_cases h4:op=4
  ·have htk:r=lbM s.tb o.pc true nx:=HTK2.out true (by simp[h4])
   subst h4
   clear HTK2
   have CB:Hid (∀W,Calls prog 92 #[.agg (rowOf (tat s.tb) 64),.int .u32 o.pc,.bool true,.int .u32 nx] W fun e w'=>e=.returned (.agg (rowOf (tat r) 64))/\Below W.heap.size W w'):=by rw[htk];exact fun W=>zdP o.pc nx true hp W
   clear htk
   go_upto_region 4 with fail
   refine zx (S:=fun w'=>w'.rangeAt b 43 (tbL s.tb)/\w'.cell? ⟨z,1,none⟩=some (.int .u32 o.pc)/\w'.cell? ⟨p,1,none⟩=some (.int .u32 nx)) [13] (by kernel_rfl) (⟨S2.out.table,c1,n1⟩) (fun hH=>?_)
   refine tU 0 (.pointer (some ⟨b,0,none⟩)) rfl hH ?_;try go_simp
   refine tU 1 (.pointer (some ⟨b,0,none⟩)) rfl hH ?_;try go_simp
   refine tU 2 (.pointer (some ⟨b,0,none⟩)) rfl hH ?_;try go_simp
   refine tU 3 (.pointer (some ⟨b,43,none⟩)) rfl hH ?_;try go_simp
   refine tS 4 (.agg (tbL s.tb).toArray) rfl (yieldsIf_load_mid (by rfl) 51 _ rfl _ _ rfl (tbL s.tb) _ (fun wz hSw=>hSw.1) underlying51 rfl (xE _)) hH ?_;try go_simp
   refine tU 5 (.pointer (some ⟨z,1,none⟩)) rfl hH ?_;try go_simp
   refine tS 6 (.int .u32 o.pc) rfl (Or.inl ⟨by rfl,by intro wz hSw;have hc:=hSw.2.1;go_simp⟩) hH ?_;try go_simp
   refine tU 7 (.bool true) rfl hH ?_;try go_simp
   refine tU 8 (.pointer (some ⟨p,1,none⟩)) rfl hH ?_;try go_simp
   refine tS 9 (.int .u32 nx) rfl (Or.inl ⟨by rfl,by intro wz hSw;have hc:=hSw.2.2;go_simp⟩) hH ?_;try go_simp
   refine zC 10 rfl (fun K hK=>?_)
   go_simp
   refine(CB.out _).mono ?_
   rintro e V4 ⟨rfl,hk4⟩
   have HK4:Hid (Below V2.heap.size V2 V4):=zi hk4 (Nat.le_refl _)
   go_wp2_with fail
   refine hK.out _ _ (⟨jy hk4 (hH.1),zn hk4 (hH.2.1),zn hk4 (hH.2.2)⟩) (fun hN=>?_)
   clear hK K hH
   have hH:=hN
   clear hN
   try go_simp
   have S4:Hid (St N V4 b s L):=S2.out.below HK4.out
   obtain⟨s5,t5⟩:=S4.out.setTb r
   have S5:Hid (St N (V4.setCells b 43 (rowOf (tat r) 64).toList) b {s with tb:=r} L):=s5
   have T5:Hid (To b w L (V4.setCells b 43 (rowOf (tat r) 64).toList) L):=(T2.out.trans (ze L HK4.out)).trans t5
   have B5:Hid (Bx (V4.setCells b 43 (rowOf (tat r) 64).toList) z o):=(B2.out.below HK4.out).to t5 hzo.out
   clear s5 t5
   refine tU 11 (.pointer (some ⟨b,0,none⟩)) rfl hH ?_;try go_simp
   refine tU 12 (.pointer (some ⟨b,43,none⟩)) rfl hH ?_;try go_simp
   refine zL 13 rfl (fun K hK=>?_)
   rw[if_pos (by rfl)]
   refine wp_store_mid 51 _ _ rfl b 43 (rowOf (tat r) 64) rfl rfl (by rw[zf];exact S4.out.there 43 64 (by omega)) (zbD r) (zbC r) ?_
   refine hK.out _ _ ?_
   clear hK K
   try go_simp
   refine zJ (by kernel_rfl) ?_ _
   clear hH HK4 S4 S2 T2 B2 C2 c1 c2 n1 CB
   generalize V4.setCells b 43 (rowOf (tat r) 64).toList=V5 at*
   have c2:V5.cell? ⟨z,2,none⟩=some (.int .i64 4):=zq B5.out 2 (by first|rfl|(rw[HOP.out];rfl))
   go_wp2_with fail
   refine(CL _).mono ?_
   rintro e V6 ⟨rfl,hk6⟩
   subst hk6
   go_wp2_with fail
   refine bodyPost_end (results_none rfl _ _ _) rfl ⟨rfl,S5.out,T5.out⟩
  ·have h4':(op==4)=false:=by simpa using h4
   by_cases hn:nx=y
   ·have htk:r=lbM s.tb o.pc false nx:=HTK2.out false (by simp[h4,hn])
    have hn':(nx != y)=false:=by simp[hn]
    clear HTK2 hn h4
    have CB:Hid (∀W,Calls prog 92 #[.agg (rowOf (tat s.tb) 64),.int .u32 o.pc,.bool false,.int .u32 nx] W fun e w'=>e=.returned (.agg (rowOf (tat r) 64))/\Below W.heap.size W w'):=by rw[htk];exact fun W=>zdP o.pc nx false hp W
    clear htk
    go_upto_region 4 with fail
    refine zx (S:=fun w'=>w'.rangeAt b 43 (tbL s.tb)/\w'.cell? ⟨z,1,none⟩=some (.int .u32 o.pc)/\w'.cell? ⟨p,1,none⟩=some (.int .u32 nx)) [13] (by kernel_rfl) (⟨S2.out.table,c1,n1⟩) (fun hH=>?_)
    refine tU 0 (.pointer (some ⟨b,0,none⟩)) rfl hH ?_;try go_simp
    refine tU 1 (.pointer (some ⟨b,0,none⟩)) rfl hH ?_;try go_simp
    refine tU 2 (.pointer (some ⟨b,0,none⟩)) rfl hH ?_;try go_simp
    refine tU 3 (.pointer (some ⟨b,43,none⟩)) rfl hH ?_;try go_simp
    refine tS 4 (.agg (tbL s.tb).toArray) rfl (yieldsIf_load_mid (by rfl) 51 _ rfl _ _ rfl (tbL s.tb) _ (fun wz hSw=>hSw.1) underlying51 rfl (xE _)) hH ?_;try go_simp
    refine tU 5 (.pointer (some ⟨z,1,none⟩)) rfl hH ?_;try go_simp
    refine tS 6 (.int .u32 o.pc) rfl (Or.inl ⟨by rfl,by intro wz hSw;have hc:=hSw.2.1;go_simp⟩) hH ?_;try go_simp
    refine tU 7 (.bool false) rfl hH ?_;try go_simp
    refine tU 8 (.pointer (some ⟨p,1,none⟩)) rfl hH ?_;try go_simp
    refine tS 9 (.int .u32 nx) rfl (Or.inl ⟨by rfl,by intro wz hSw;have hc:=hSw.2.2;go_simp⟩) hH ?_;try go_simp
    refine zC 10 rfl (fun K hK=>?_)
    go_simp
    refine(CB.out _).mono ?_
    rintro e V4 ⟨rfl,hk4⟩
    have HK4:Hid (Below V2.heap.size V2 V4):=zi hk4 (Nat.le_refl _)
    go_wp2_with fail
    refine hK.out _ _ (⟨jy hk4 (hH.1),zn hk4 (hH.2.1),zn hk4 (hH.2.2)⟩) (fun hN=>?_)
    clear hK K hH
    have hH:=hN
    clear hN
    try go_simp
    have S4:Hid (St N V4 b s L):=S2.out.below HK4.out
    obtain⟨s5,t5⟩:=S4.out.setTb r
    have S5:Hid (St N (V4.setCells b 43 (rowOf (tat r) 64).toList) b {s with tb:=r} L):=s5
    have T5:Hid (To b w L (V4.setCells b 43 (rowOf (tat r) 64).toList) L):=(T2.out.trans (ze L HK4.out)).trans t5
    have B5:Hid (Bx (V4.setCells b 43 (rowOf (tat r) 64).toList) z o):=(B2.out.below HK4.out).to t5 hzo.out
    clear s5 t5
    refine tU 11 (.pointer (some ⟨b,0,none⟩)) rfl hH ?_;try go_simp
    refine tU 12 (.pointer (some ⟨b,43,none⟩)) rfl hH ?_;try go_simp
    refine zL 13 rfl (fun K hK=>?_)
    rw[if_pos (by rfl)]
    refine wp_store_mid 51 _ _ rfl b 43 (rowOf (tat r) 64) rfl rfl (by rw[zf];exact S4.out.there 43 64 (by omega)) (zbD r) (zbC r) ?_
    refine hK.out _ _ ?_
    clear hK K
    try go_simp
    refine zJ (by kernel_rfl) ?_ _
    clear hH HK4 S4 S2 T2 B2 C2 c1 c2 n1 CB
    generalize V4.setCells b 43 (rowOf (tat r) 64).toList=V5 at*
    have c2:V5.cell? ⟨z,2,none⟩=some (.int .i64 op):=zq B5.out 2 (by first|rfl|(rw[HOP.out];rfl))
    go_wp2_with fail
    refine(CL _).mono ?_
    rintro e V6 ⟨rfl,hk6⟩
    subst hk6
    go_wp2_with fail
    refine bodyPost_end (results_none rfl _ _ _) rfl ⟨rfl,S5.out,T5.out⟩
   ·have htk:r=lbM s.tb o.pc true nx:=HTK2.out true (by simp[h4,hn])
    have hn':(nx != y)=true:=by simp[hn]
    clear HTK2 hn h4
    have CB:Hid (∀W,Calls prog 92 #[.agg (rowOf (tat s.tb) 64),.int .u32 o.pc,.bool true,.int .u32 nx] W fun e w'=>e=.returned (.agg (rowOf (tat r) 64))/\Below W.heap.size W w'):=by rw[htk];exact fun W=>zdP o.pc nx true hp W
    clear htk
    go_upto_region 4 with fail
    refine zx (S:=fun w'=>w'.rangeAt b 43 (tbL s.tb)/\w'.cell? ⟨z,1,none⟩=some (.int .u32 o.pc)/\w'.cell? ⟨p,1,none⟩=some (.int .u32 nx)) [13] (by kernel_rfl) (⟨S2.out.table,c1,n1⟩) (fun hH=>?_)
    refine tU 0 (.pointer (some ⟨b,0,none⟩)) rfl hH ?_;try go_simp
    refine tU 1 (.pointer (some ⟨b,0,none⟩)) rfl hH ?_;try go_simp
    refine tU 2 (.pointer (some ⟨b,0,none⟩)) rfl hH ?_;try go_simp
    refine tU 3 (.pointer (some ⟨b,43,none⟩)) rfl hH ?_;try go_simp
    refine tS 4 (.agg (tbL s.tb).toArray) rfl (yieldsIf_load_mid (by rfl) 51 _ rfl _ _ rfl (tbL s.tb) _ (fun wz hSw=>hSw.1) underlying51 rfl (xE _)) hH ?_;try go_simp
    refine tU 5 (.pointer (some ⟨z,1,none⟩)) rfl hH ?_;try go_simp
    refine tS 6 (.int .u32 o.pc) rfl (Or.inl ⟨by rfl,by intro wz hSw;have hc:=hSw.2.1;go_simp⟩) hH ?_;try go_simp
    refine tU 7 (.bool true) rfl hH ?_;try go_simp
    refine tU 8 (.pointer (some ⟨p,1,none⟩)) rfl hH ?_;try go_simp
    refine tS 9 (.int .u32 nx) rfl (Or.inl ⟨by rfl,by intro wz hSw;have hc:=hSw.2.2;go_simp⟩) hH ?_;try go_simp
    refine zC 10 rfl (fun K hK=>?_)
    go_simp
    refine(CB.out _).mono ?_
    rintro e V4 ⟨rfl,hk4⟩
    have HK4:Hid (Below V2.heap.size V2 V4):=zi hk4 (Nat.le_refl _)
    go_wp2_with fail
    refine hK.out _ _ (⟨jy hk4 (hH.1),zn hk4 (hH.2.1),zn hk4 (hH.2.2)⟩) (fun hN=>?_)
    clear hK K hH
    have hH:=hN
    clear hN
    try go_simp
    have S4:Hid (St N V4 b s L):=S2.out.below HK4.out
    obtain⟨s5,t5⟩:=S4.out.setTb r
    have S5:Hid (St N (V4.setCells b 43 (rowOf (tat r) 64).toList) b {s with tb:=r} L):=s5
    have T5:Hid (To b w L (V4.setCells b 43 (rowOf (tat r) 64).toList) L):=(T2.out.trans (ze L HK4.out)).trans t5
    have B5:Hid (Bx (V4.setCells b 43 (rowOf (tat r) 64).toList) z o):=(B2.out.below HK4.out).to t5 hzo.out
    clear s5 t5
    refine tU 11 (.pointer (some ⟨b,0,none⟩)) rfl hH ?_;try go_simp
    refine tU 12 (.pointer (some ⟨b,43,none⟩)) rfl hH ?_;try go_simp
    refine zL 13 rfl (fun K hK=>?_)
    rw[if_pos (by rfl)]
    refine wp_store_mid 51 _ _ rfl b 43 (rowOf (tat r) 64) rfl rfl (by rw[zf];exact S4.out.there 43 64 (by omega)) (zbD r) (zbC r) ?_
    refine hK.out _ _ ?_
    clear hK K
    try go_simp
    refine zJ (by kernel_rfl) ?_ _
    clear hH HK4 S4 S2 T2 B2 C2 c1 c2 n1 CB
    generalize V4.setCells b 43 (rowOf (tat r) 64).toList=V5 at*
    have c2:V5.cell? ⟨z,2,none⟩=some (.int .i64 op):=zq B5.out 2 (by first|rfl|(rw[HOP.out];rfl))
    go_wp2_with fail
    refine(CL _).mono ?_
    rintro e V6 ⟨rfl,hk6⟩
    subst hk6
    go_wp2_with fail
    refine bodyPost_end (results_none rfl _ _ _) rfl ⟨rfl,S5.out,T5.out⟩
 |false=>
  have hr:=(HTK.out _ rfl).2.2 htr
  clear HTK htr
  obtain⟨ld,hld⟩:∃ld,ld=ldn o.i.op:=⟨_,rfl⟩
  rw[<-hld]at CL hr l0
  obtain⟨k,hk⟩:∃k,k=o.c.rd:=⟨_,rfl⟩
  rw[<-hk]at hr
  have c4:V2.cell? ⟨p,4,none⟩=some (.int .i64 (k:Int)):=qT C2.out 4 (by rw[hk];rfl)
  have HR:Hid (r=if ld≠0/\k≠0 then lvM s.tb o.pc o.c.val else s.tb):=hr
  clear hld hk hr n1
  go_wp2_with fail
  refine(CL _).mono ?_
  rintro e V3 ⟨rfl,hk3⟩
  subst hk3
  clear CL
  by_cases h0:ld=0
  ·have hr:=HR.out
   rw[if_neg (by rw[h0];exact fun h=>h.1 rfl)]at hr
   subst hr h0
   clear HR
   go_wp2_with fail
   refine bodyPost_end (results_none rfl _ _ _) rfl ⟨rfl,S2.out,T2.out⟩
  ·have hgt:(0:Int)<ld:=by omega
   by_cases hk0:k=0
   ·have hr:=HR.out
    rw[if_neg (by rw[hk0];exact fun h=>h.2 rfl)]at hr
    subst hr
    have c4':V3.cell? ⟨p,4,none⟩=some (.int .i64 0):=by rw[c4,hk0];rfl
    clear HR c4 hk0 h0
    go_wp2_with fail
    refine bodyPost_end (results_none rfl _ _ _) rfl ⟨rfl,S2.out,T2.out⟩
   ·have hr:=HR.out
    rw[if_pos ⟨h0,hk0⟩]at hr
    have HR2:Hid (r=lvM s.tb o.pc o.c.val):=hr
    have hkb:((k:Int) != 0)=true:=by simp[hk0]
    have c5:V3.cell? ⟨p,5,none⟩=some (.int .u32 o.c.val):=qT C2.out 5 rfl
    have CV:Hid (∀W,Calls prog 93 #[.agg (rowOf (tat s.tb) 64),.int .u32 o.pc,.int .u32 o.c.val] W fun e w'=>e=.returned (.agg (rowOf (tat r) 64))/\Below W.heap.size W w'):=by rw[hr];exact fun W=>zmR ht o.pc o.c.val hp hc.val W
    clear HR hr hk0 h0
    go_upto_region 6 with fail
    refine zx (S:=fun w'=>w'.rangeAt b 43 (tbL s.tb)/\w'.cell? ⟨z,1,none⟩=some (.int .u32 o.pc)/\w'.cell? ⟨p,5,none⟩=some (.int .u32 o.c.val)) [12] (by kernel_rfl) (⟨S2.out.table,c1,c5⟩) (fun hH=>?_)
    refine tU 0 (.pointer (some ⟨b,0,none⟩)) rfl hH ?_;try go_simp
    refine tU 1 (.pointer (some ⟨b,0,none⟩)) rfl hH ?_;try go_simp
    refine tU 2 (.pointer (some ⟨b,0,none⟩)) rfl hH ?_;try go_simp
    refine tU 3 (.pointer (some ⟨b,43,none⟩)) rfl hH ?_;try go_simp
    refine tS 4 (.agg (tbL s.tb).toArray) rfl (yieldsIf_load_mid (by rfl) 51 _ rfl _ _ rfl (tbL s.tb) _ (fun wz hSw=>hSw.1) underlying51 rfl (xE _)) hH ?_;try go_simp
    refine tU 5 (.pointer (some ⟨z,1,none⟩)) rfl hH ?_;try go_simp
    refine tS 6 (.int .u32 o.pc) rfl (Or.inl ⟨by rfl,by intro wz hSw;have hc:=hSw.2.1;go_simp⟩) hH ?_;try go_simp
    refine tU 7 (.pointer (some ⟨p,5,none⟩)) rfl hH ?_;try go_simp
    refine tS 8 (.int .u32 o.c.val) rfl (Or.inl ⟨by rfl,by intro wz hSw;have hc:=hSw.2.2;go_simp⟩) hH ?_;try go_simp
    refine zC 9 rfl (fun K hK=>?_)
    go_simp
    refine(CV.out _).mono ?_
    rintro e V4 ⟨rfl,hk4⟩
    have HK4:Hid (Below V3.heap.size V3 V4):=zi hk4 (Nat.le_refl _)
    go_wp2_with fail
    refine hK.out _ _ (⟨jy hk4 (hH.1),zn hk4 (hH.2.1),zn hk4 (hH.2.2)⟩) (fun hN=>?_)
    clear hK K hH
    have hH:=hN
    clear hN
    try go_simp
    have S4:Hid (St N V4 b s L):=S2.out.below HK4.out
    obtain⟨s5,t5⟩:=S4.out.setTb r
    have S5:Hid (St N (V4.setCells b 43 (rowOf (tat r) 64).toList) b {s with tb:=r} L):=s5
    have T5:Hid (To b w L (V4.setCells b 43 (rowOf (tat r) 64).toList) L):=(T2.out.trans (ze L HK4.out)).trans t5
    have B5:Hid (Bx (V4.setCells b 43 (rowOf (tat r) 64).toList) z o):=(B2.out.below HK4.out).to t5 hzo.out
    clear s5 t5
    refine tU 10 (.pointer (some ⟨b,0,none⟩)) rfl hH ?_;try go_simp
    refine tU 11 (.pointer (some ⟨b,43,none⟩)) rfl hH ?_;try go_simp
    refine zL 12 rfl (fun K hK=>?_)
    rw[if_pos (by rfl)]
    refine wp_store_mid 51 _ _ rfl b 43 (rowOf (tat r) 64) rfl rfl (by rw[zf];exact S4.out.there 43 64 (by omega)) (zbD r) (zbC r) ?_
    refine hK.out _ _ ?_
    clear hK K
    try go_simp
    refine zJ (by kernel_rfl) ?_ _
    clear hH
    go_wp2_with fail
    refine bodyPost_end (results_none rfl _ _ _) rfl ⟨rfl,S5.out,T5.out⟩
structure ComOk(s:Cr)(o:Dg):Prop where
 pc:U32 o.pc
 c:CmR o.c
 tb:Gu.TbOk s.tb
 len:s.coms.length<=100000
 nms:Nms s
 give:o.rd≠0->0<=o.old/\o.old<s.phys/\o.old∉s.free/\∀r,r<32->s.regs r≠o.old
 sto:o.c.many≠0->sts o.i=true/\o.c.many=stn o.i.op/\fits s.n o.c.pl (stn o.i.op)=true
theorem qE:(prog.info? 27).map (·.size)=some 35:=by kernel_rfl
theorem zf1(R:Nat->Int)(pc st ca:Int):(prog.info? 27).map (·.size)=some (rowOf (hat R pc st ca) 35).toList.length:=by
 rw[Array.length_toList,zf]
 exact qE
theorem zcM(R:Nat->Int)(pc st ca:Int):(rowOf (hat R pc st ca) 35).all (·.oneCell')=true:=je _ _ fun i _=>zbx _ _ _ _ i
theorem St.hart{N:Nat}{w:World}{b:Nat}{s:Cr}{L:Sls}(S:St N w b s L):w.rangeAt b 4 (rowOf (hat s.R s.pc s.st s.ca) 35).toList:=jB S.row (by omega) (zbs s L)
theorem zae{N:Nat}{w:World}{b:Nat}{s:Cr}{L:Sls}(S:St N w b s L)(o:Dg)(K:ComOk s o):
  Calls prog 39 #[.pointer (some ⟨b,0,none⟩),dgv o] w fun e w'=>e=.returned (.tuple #[])/\∃L',St N w' b (com1 mach s o) L'/\To b w L w' L':=by
 obtain⟨iC,hi,hz0,hz1,hz2⟩:=info_parts zp7
 obtain⟨r,hr⟩:∃r,r=com1 mach s o:=⟨_,rfl⟩
 rw[<-hr]
 have HR:Hid (r=com1 mach s o):=hr
 have HK:Hid (ComOk s o):=K
 obtain⟨E,hE⟩:∃E,E=(cC o.c).toList.toArray:=⟨_,rfl⟩
 have HE:Hid (E=(cC o.c).toList.toArray):=hE
 have HI:Hid ((prog.info? 64).map (·.size)=some E.size/\11=E.size/\E.all (·.oneCell')=true):=by rw[hE];exact⟨za,rfl,vA o.c⟩
 have hlC:=K.len
 clear hr hE K
 go_enter func39,ntmps39
 go_upto_region 1 with fail
 refine Wi.zA (Φ:=fun W=>Code.wp _ _ _ _ W) ?_
 intro V0 hV hVb
 have BV0:Hid (Bx V0 w.heap.size o):=hV
 have SV0:Hid (St N V0 b s L):=S.below hVb
 have TV0:Hid (To b w L V0 L):=ze L hVb
 have hzo:Hid (¬own b L w.heap.size):=fun h=>by have:=qR S h;omega
 clear hV hVb S
 generalize w.heap.size=z at*
 go_upto_region 2 with(first|(refine wpList_load_mid rfl 64 _ rfl z 17 rfl (cC o.c).toList _ BV0.out.cm underlying64 rfl (vJ o.c) ?_;rw[<-HE.out])|(refine wpList_store_row rfl 64 _ _ rfl _ _ rfl rfl 64 _ (heap_alloc_new _ _) HI.out.1 HI.out.2.1 HI.out.2.2 ?_;rw[World.setRow_alloc_new]))
 refine Wi.zA (Φ:=fun W=>Code.wp _ _ _ _ W) ?_
 intro V h1 hb
 have CV:Hid (Cb V V0.heap.size o.c):=by show _=_;rw[h1,HE.out]
 have BV:Hid (Bx V z o):=BV0.out.below hb
 have SV:Hid (St N V b s L):=SV0.out.below hb
 have TV:Hid (To b w L V L):=TV0.out.trans (ze L hb)
 have hpo:Hid (¬own b L V0.heap.size):=fun h=>by have:=qR SV0.out h;omega
 clear h1 hb BV0 SV0 TV0 HI HE
 generalize V0.heap.size=p at*
 have hnp:L.c.ownBlock≠some p:=fun h=>hpo.out (.inr (.inl h))
 obtain⟨a5,c5,ea⟩:=SV.out.its.ic.slice
 have kA:V.cell? ⟨b,3,none⟩=some (.slice a5 (s.coms.length) c5):=(zb SV.out.row (by omega)).trans (congrArg some ea)
 have HU:Hid (Us V 64 11 (.slice a5 (s.coms.length) c5) (s.coms.length) (flat cml s.coms)):=by have:=SV.out.its.ic;rw[ea]at this;exact this
 have hnb:(Value.slice a5 (s.coms.length) c5).ownBlock≠some b:=fun h=>(SV.out.apart.1 b (by rw[ea];exact h)).2.2 rfl
 have hlt0:∀g,(Value.slice a5 (s.coms.length) c5).ownBlock=some g->g<V.heap.size:=fun g h=>SV.out.its.lt (.inl (by rw[ea];exact h))
 refine zx (S:=fun w'=>w'.cell? ⟨b,3,none⟩=some (.slice a5 (s.coms.length) c5)/\w'.rangeAt p 0 ((cC o.c).toList)) [12] (by kernel_rfl) (⟨kA,ziu CV.out⟩) (fun hH=>?_)
 refine tU 0 (.pointer (some ⟨b,0,none⟩)) rfl hH ?_;try go_simp
 refine tU 1 (.pointer (some ⟨b,0,none⟩)) rfl hH ?_;try go_simp
 refine tU 2 (.pointer (some ⟨b,0,none⟩)) rfl hH ?_;try go_simp
 refine tU 3 (.pointer (some ⟨b,3,none⟩)) rfl hH ?_;try go_simp
 refine tU 4 (.pointer (some ⟨b,3,none⟩)) rfl hH ?_;try go_simp
 refine tS 5 (.slice a5 (s.coms.length) c5) rfl (Or.inl ⟨by rfl,by intro wz hSw;have hc:=hSw.1;go_simp⟩) hH ?_;try go_simp
 refine tS 6 (.agg ((cC o.c).toList).toArray) rfl (yieldsIf_load_mid (by rfl) 64 _ rfl _ _ rfl ((cC o.c).toList) _ (fun wz hSw=>hSw.2) underlying64 rfl (vJ _)) hH ?_;try go_simp
 refine zC 7 rfl (fun K hK=>?_)
 go_simp
 refine hK.out _ _ (⟨qS _ (hH.1),yv _ (hH.2)⟩) (fun hN=>?_)
 clear hK K hH
 have hH:=hN
 clear hN
 try go_simp
 refine zC 8 rfl (fun K hK=>?_)
 rw[if_pos (by rfl)]
 refine zW _ _ 30 rfl 64 iC _ 11 64 underlying30 hi hz0 hz1 hz2 rfl (by decide) _ (s.coms.length) _ rfl (HU.out.below ((Below.refl _ _).drew.alloc (Nat.le_refl _) _)) V.heap.size ((cC o.c).toList) rfl rfl (fun j u hj=>qz (w:=V.drew) j u hj) (zhN _) (by omega) (by omega) ?_
 intro v1 w1 hU1 hG1 hF1
 obtain⟨p1,c1,rfl⟩:=hU1.slice
 have fA:w1.frozen? ⟨b,3,none⟩=false:=frozen_of_row _ _ _ _ _ ((hG1.block b (by have:=SV.out.lt;simp;omega) (fun h=>hnb h.symm)).trans ((Below.heap_alloc _ _ _ SV.out.lt).trans SV.out.row))
 have HU1:Hid (Us w1 64 11 (.slice p1 ((s.coms.length)+1) c1) ((s.coms.length)+1) (flat cml s.coms++(cC o.c).toList)):=hU1
 have HG1:Hid (V.grownBy w1 L.c.ownBlock):=by rw[ea];exact qb (qh hG1 (fun g hg=>hlt0 g hg))
 have HF1:Hid (∀g,(Value.slice p1 ((s.coms.length)+1) c1).ownBlock=some g->L.c.ownBlock=some g\/V.heap.size<=g):=fun g hg=>(hF1 g hg).imp (fun h=>by rw[ea];exact h) (fun h=>Nat.le_trans (by simp) h)
 refine hK.out _ _ (⟨xT hG1 (hH.1) (hnb),zcy hG1 (hH.2) (by rw[<-ea];exact hnp)⟩) (fun hN=>?_)
 clear hK K hH
 have hH:=hN
 clear hN
 try go_simp
 have cA:=hH.1
 clear hU1 hG1 hF1 HU hnb hlt0 kA
 refine tU 9 (.pointer (some ⟨b,0,none⟩)) rfl hH ?_;try go_simp
 refine tU 10 (.pointer (some ⟨b,3,none⟩)) rfl hH ?_;try go_simp
 refine tU 11 (.pointer (some ⟨b,3,none⟩)) rfl hH ?_;try go_simp
 refine zL 12 rfl (fun K hK=>?_)
 go_simp
 refine hK.out _ _ ?_
 clear hK K
 try go_simp
 refine zJ (by kernel_rfl) ?_ _
 obtain⟨S1,T1⟩:=St.appC SV.out (o.c) HU1.out HG1.out HF1.out
 clear HU1 HG1 HF1 hH cA fA
 generalize w1.setCell ⟨b,3,none⟩ (.slice p1 ((s.coms.length)+1) c1)=W1 at*
 generalize Value.slice p1 ((s.coms.length)+1) c1=v1 at*
 have S2:Hid (St N W1 b {s with coms:=s.coms++[o.c]} {L with c:=v1}):=S1
 have T2:Hid (To b w L W1 {L with c:=v1}):=TV.out.trans T1
 have B2:Hid (Bx W1 z o):=BV.out.to T1 hzo.out
 have C2:Hid (Cb W1 p o.c):=CV.out.to T1 hpo.out
 have z2:Hid (¬own b {L with c:=v1} z):=BV.out.not T1 hzo.out
 have p2:Hid (¬own b {L with c:=v1} p):=CV.out.not T1 hpo.out
 clear S1 T1 SV TV BV CV hzo hpo hnp hlC
 generalize ({L with c:=v1}:Sls)=L2 at*
 have CB:Hid (∀W,Calls prog 62 #[.agg (rowOf (hat s.R s.pc s.st s.ca) 35),cvC o.c] W fun e w'=>e=.returned (.agg (rowOf (hat (updC s.R o.c) o.c.next o.c.st o.c.ca) 35))/\Below W.heap.size W w'):=fun W=>zmg s.R s.pc s.st s.ca o.c HK.out.c.rd W
 obtain⟨H2,hH2⟩:∃H2,H2=rowOf (hat (updC s.R o.c) o.c.next o.c.st o.c.ca) 35:=⟨_,rfl⟩
 rw[<-hH2]at CB
 have HH2:Hid (H2=rowOf (hat (updC s.R o.c) o.c.next o.c.st o.c.ca) 35):=hH2
 have HHI:Hid (H2.size=35/\(prog.info? 27).map (·.size)=some H2.size/\H2.all (·.oneCell')=true):=by rw[hH2];exact⟨zf _ _,by rw[zf];exact qE,zcM _ _ _ _⟩
 clear hH2
 go_upto_region 3 with fail
 refine zx (S:=fun w'=>w'.rangeAt b 4 ((rowOf (hat s.R s.pc s.st s.ca) 35).toList)/\w'.rangeAt p 0 ((cC o.c).toList)) [11] (by kernel_rfl) (⟨S2.out.hart,ziu C2.out⟩) (fun hH=>?_)
 refine tU 0 (.pointer (some ⟨b,0,none⟩)) rfl hH ?_;try go_simp
 refine tU 1 (.pointer (some ⟨b,0,none⟩)) rfl hH ?_;try go_simp
 refine tU 2 (.pointer (some ⟨b,0,none⟩)) rfl hH ?_;try go_simp
 refine tU 3 (.pointer (some ⟨b,3,none⟩)) rfl hH ?_;try go_simp
 refine tU 4 (.pointer (some ⟨b,4,none⟩)) rfl hH ?_;try go_simp
 refine tS 5 (.agg ((rowOf (hat s.R s.pc s.st s.ca) 35).toList).toArray) rfl (yieldsIf_load_mid (by rfl) 27 _ rfl _ _ rfl ((rowOf (hat s.R s.pc s.st s.ca) 35).toList) _ (fun wz hSw=>hSw.1) underlying27 rfl (zf1 _ _ _ _)) hH ?_;try go_simp
 refine tS 6 (.agg ((cC o.c).toList).toArray) rfl (yieldsIf_load_mid (by rfl) 64 _ rfl _ _ rfl ((cC o.c).toList) _ (fun wz hSw=>hSw.2) underlying64 rfl (vJ _)) hH ?_;try go_simp
 refine zC 7 rfl (fun K hK=>?_)
 go_simp
 refine(CB.out _).mono ?_
 rintro e V3 ⟨rfl,hk3⟩
 have HK3:Hid (Below W1.heap.size W1 V3):=zi hk3 (Nat.le_refl _)
 go_wp2_with fail
 refine hK.out _ _ (⟨jy hk3 (hH.1),jy hk3 (hH.2)⟩) (fun hN=>?_)
 clear hK K hH
 have hH:=hN
 clear hN
 try go_simp
 have S3:Hid (St N V3 b {s with coms:=s.coms++[o.c]} L2):=S2.out.below HK3.out
 obtain⟨s4,t4⟩:=S3.out.setHart (updC s.R o.c) o.c.next o.c.st o.c.ca
 rw[<-HH2.out]at s4 t4
 have S4:Hid (St N (V3.setCells b 4 H2.toList) b {s with coms:=s.coms++[o.c],R:=updC s.R o.c,pc:=o.c.next,st:=o.c.st,ca:=o.c.ca} L2):=s4
 have T4:Hid (To b w L (V3.setCells b 4 H2.toList) L2):=(T2.out.trans (ze L2 HK3.out)).trans t4
 have B4:Hid (Bx (V3.setCells b 4 H2.toList) z o):=(B2.out.below HK3.out).to t4 z2.out
 have C4:Hid (Cb (V3.setCells b 4 H2.toList) p o.c):=(C2.out.below HK3.out).to t4 p2.out
 clear s4 t4
 refine tU 8 (.pointer (some ⟨b,0,none⟩)) rfl hH ?_;try go_simp
 refine tU 9 (.pointer (some ⟨b,3,none⟩)) rfl hH ?_;try go_simp
 refine tU 10 (.pointer (some ⟨b,4,none⟩)) rfl hH ?_;try go_simp
 refine zL 11 rfl (fun K hK=>?_)
 rw[if_pos (by rfl)]
 refine wp_store_mid 27 _ _ rfl b 4 (H2) rfl rfl (by rw[HHI.out.1];exact S3.out.there 4 35 (by omega)) (HHI.out.2.1) (HHI.out.2.2) ?_
 refine hK.out _ _ ?_
 clear hK K
 try go_simp
 refine zJ (by kernel_rfl) ?_ _
 clear hH HK3 S3 S2 T2 B2 C2 CB HH2 HHI
 generalize V3.setCells b 4 H2.toList=V4 at*
 obtain⟨s4,hs4⟩:∃s4:Cr,s4={s with coms:=s.coms++[o.c],R:=updC s.R o.c,pc:=o.c.next,st:=o.c.st,ca:=o.c.ca}:=⟨_,rfl⟩
 have HR2:Hid (r={s4 with f:=stoC s4.f o.c,free:=if o.rd=0 then s4.free else s4.free++[o.old],tb:=learn mach s4.tb o}):=by show _=_;rw[HR.out,hs4];rfl
 rw[<-hs4]at S4
 have HK4:Hid (Nms s4/\Gu.TbOk s4.tb/\(o.rd≠0->0<=o.old/\o.old<s4.phys/\o.old∉s4.free/\∀r,r<32->s4.regs r≠o.old)/\(o.c.many≠0->sts o.i=true/\o.c.many=stn o.i.op/\fits s4.n o.c.pl (stn o.i.op)=true)):=by
  rw[hs4]
  exact⟨⟨HK.out.nms.low,HK.out.nms.high,HK.out.nms.dis⟩,HK.out.tb,HK.out.give,HK.out.sto⟩
 have HKC:Hid (U32 o.pc/\CmR o.c):=⟨HK.out.pc,HK.out.c⟩
 clear HR HK hs4
 have c7:V4.cell? ⟨p,7,none⟩=some (.int .i64 o.c.many):=qT C4.out 7 rfl
 have hm0:=HKC.out.2.many
 by_cases hm:o.c.many=0
 ·have c7':V4.cell? ⟨p,7,none⟩=some (.int .i64 0):=by rw[c7,hm]
  have HR3:Hid (r={s4 with free:=if o.rd=0 then s4.free else s4.free++[o.old],tb:=learn mach s4.tb o}):=by
   show _=_
   rw[HR2.out]
   unfold stoC
   rw[hm]
   show({s4 with f:=sto s4.f o.c.pl.toNat o.c.data 0,free:=_,tb:=_}:Cr)=_
   rw[zep]
  have HK5:Hid (Nms s4/\Gu.TbOk s4.tb/\(o.rd≠0->0<=o.old/\o.old<s4.phys/\o.old∉s4.free/\∀r,r<32->s4.regs r≠o.old)):=⟨HK4.out.1,HK4.out.2.1,HK4.out.2.2.1⟩
  clear c7 HR2 HK4 hm hm0 C4 p2
  obtain⟨k,hk⟩:∃k,k=o.rd:=⟨_,rfl⟩
  have c10:V4.cell? ⟨z,10,none⟩=some (.int .i64 (k:Int)):=zq B4.out 10 (by rw[hk];rfl)
  rw[<-hk]at HR3 HK5
  clear hk
  by_cases h0:k=0
  ·have c10':V4.cell? ⟨z,10,none⟩=some (.int .i64 0):=by rw[c10,h0];rfl
   have HR4:Hid (r={s4 with tb:=learn mach s4.tb o}):=by
    show _=_
    rw[HR3.out,if_pos h0]
   have CLn:Hid (Calls prog 65 #[.pointer (some ⟨b,0,none⟩),dgv o] V4 fun e w'=>e=.returned (.tuple #[])/\St N w' b r L2/\To b V4 L2 w' L2):=by rw[HR4.out];exact xF S4.out HK5.out.2.1 o HKC.out.1 HKC.out.2
   clear c10 h0 HR3 HR4 HK5 HKC
   go_wp2_with(refine wpList_load_mid rfl 97 _ rfl z 0 rfl (dgl o) _ (jJ B4.out) underlying97 rfl (zN o) ?_)
   refine CLn.out.mono ?_
   rintro e V9 ⟨rfl,u1,u2⟩
   have S9:Hid (St N V9 b r L2):=u1
   have T9:Hid (To b w L V9 L2):=T4.out.trans u2
   clear u1 u2 CLn
   go_wp2_with fail
   refine bodyPost_end (results_none rfl _ _ _) rfl ⟨rfl,L2,S9.out,T9.out⟩
  ·have hb0:((k:Int) != 0)=true:=by simp[h0]
   obtain⟨p2,p3,p4,p5⟩:=HK5.out.2.2 h0
   have CG:Hid (∀W,Below V4.heap.size V4 W->Calls prog 64 #[.agg (rowOf (mat s4.phys s4.regs L2.f) 34),.int .i64 o.old] W fun e w'=>(∃a c,e=.returned (.tuple #[.agg (rowOf (mat s4.phys s4.regs (.slice a (s4.free++[o.old]).length c)) 34),.bool true])/\Re.Lie w' a (s4.free++[o.old]).length c (fun i=>(s4.free++[o.old]).getD i 0)/\FarC W.heap.size a)/\Below W.heap.size W w'):=fun W hW=>by
    have:=zoY S4.out HK5.out.1 o.old p2 p3 p4 p5 W hW
    rw[Array.toArray_toList]at this
    exact this
   obtain⟨fl,hfl⟩:∃fl,fl=s4.free++[o.old]:=⟨_,rfl⟩
   have HR4:Hid (r={s4 with free:=fl,tb:=learn mach s4.tb o}):=by
    show _=_
    rw[HR3.out,if_neg h0,hfl]
   rw[<-hfl]at CG
   have c12:V4.cell? ⟨z,12,none⟩=some (.int .i64 o.old):=zq B4.out 12 rfl
   have HTB:Hid (Gu.TbOk s4.tb):=HK5.out.2.1
   clear p2 p3 p4 p5 hfl h0 HR3 HK5
   go_upto_region 7 with fail
   refine zx (S:=fun w'=>w'.rangeAt b 107 (mpL s4 L2)/\w'.cell? ⟨z,12,none⟩=some (.int .i64 o.old)) [13] (by kernel_rfl) (⟨S4.out.names,c12⟩) (fun hH=>?_)
   refine tU 0 (.pointer (some ⟨b,0,none⟩)) rfl hH ?_;try go_simp
   refine tU 1 (.pointer (some ⟨b,0,none⟩)) rfl hH ?_;try go_simp
   refine tU 2 (.pointer (some ⟨b,0,none⟩)) rfl hH ?_;try go_simp
   refine tU 3 (.pointer (some ⟨b,107,none⟩)) rfl hH ?_;try go_simp
   refine tS 4 (.agg (mpL s4 L2).toArray) rfl (yieldsIf_load_mid (by rfl) 54 _ rfl _ _ rfl (mpL s4 L2) _ (fun wz hSw=>hSw.1) underlying54 rfl (jf _ _ _)) hH ?_;try go_simp
   refine tU 5 (.pointer (some ⟨z,12,none⟩)) rfl hH ?_;try go_simp
   refine tS 6 (.int .i64 o.old) rfl (Or.inl ⟨by rfl,by intro wz hSw;have hc:=hSw.2;go_simp⟩) hH ?_;try go_simp
   refine zC 7 rfl (fun K hK=>?_)
   go_simp
   refine(CG.out _ ((Below.refl _ _).drew)).mono ?_
   rintro e V7 ⟨⟨a7,c7,rfl,hl7,hf7⟩,hk7⟩
   have HK7:Hid (Below V4.heap.size V4 V7):=zi hk7 (Nat.le_refl _)
   have HL7:Hid (Re.Lie V7 a7 fl.length c7 (fun i=>fl.getD i 0)/\FarC V4.heap.size a7):=⟨hl7,hf7⟩
   clear hl7 hf7
   go_wp2_with fail
   refine hK.out _ _ (⟨jy hk7 (hH.1),zn hk7 (hH.2)⟩) (fun hN=>?_)
   clear hK K hH
   have hH:=hN
   clear hN
   try go_simp
   have S7:Hid (St N V7 b s4 L2):=S4.out.below HK7.out
   obtain⟨s8,t8⟩:=S7.out.setNames s4.regs HL7.out.1 (qX S4.out (Nat.le_refl _) HL7.out.2)
   have S8:Hid (St N (V7.setCells b 107 (rowOf (mat s4.phys s4.regs (.slice a7 fl.length c7)) 34).toList) b {s4 with free:=fl} {L2 with f:=.slice a7 fl.length c7}):=s8
   have T8:Hid (To b w L (V7.setCells b 107 (rowOf (mat s4.phys s4.regs (.slice a7 fl.length c7)) 34).toList) {L2 with f:=.slice a7 fl.length c7}):=(T4.out.trans (ze L2 HK7.out)).trans t8
   have B8:Hid (Bx (V7.setCells b 107 (rowOf (mat s4.phys s4.regs (.slice a7 fl.length c7)) 34).toList) z o):=(B4.out.below HK7.out).to t8 z2.out
   clear s8 t8
   refine tU 8 (.tuple #[.agg (rowOf (mat s4.phys s4.regs (.slice a7 fl.length c7)) 34),.bool true]) rfl hH ?_;try go_simp
   refine tU 9 (.agg (rowOf (mat s4.phys s4.regs (.slice a7 fl.length c7)) 34)) rfl hH ?_;try go_simp
   refine tU 10 (.bool true) rfl hH ?_;try go_simp
   refine tU 11 (.pointer (some ⟨b,0,none⟩)) rfl hH ?_;try go_simp
   refine tU 12 (.pointer (some ⟨b,107,none⟩)) rfl hH ?_;try go_simp
   refine zL 13 rfl (fun K hK=>?_)
   rw[if_pos (by rfl)]
   refine wp_store_mid 54 _ _ rfl b 107 (rowOf (mat s4.phys s4.regs (.slice a7 fl.length c7)) 34) rfl rfl (by rw[zf];exact S7.out.there 107 34 (by omega)) (by have:=jf s4.phys s4.regs (.slice a7 fl.length c7);rw[Array.length_toList]at this;exact this) (kH _ _ _ _ _) ?_
   refine hK.out _ _ ?_
   clear hK K
   try go_simp
   refine zJ (by kernel_rfl) ?_ _
   clear hH
   have HK7c:Hid (Gu.TbOk s4.tb):=HTB.out
   generalize V7.setCells b 107 (rowOf (mat s4.phys s4.regs (.slice a7 fl.length c7)) 34).toList=V8 at*
   generalize ({L2 with f:=.slice a7 fl.length c7}:Sls)=L8 at*
   have CLn:Hid (Calls prog 65 #[.pointer (some ⟨b,0,none⟩),dgv o] V8 fun e w'=>e=.returned (.tuple #[])/\St N w' b r L8/\To b V8 L8 w' L8):=by rw[HR4.out];exact xF S8.out HTB.out o HKC.out.1 HKC.out.2
   clear HR4 HKC HTB HK7c
   go_wp2_with(refine wpList_load_mid rfl 97 _ rfl z 0 rfl (dgl o) _ (jJ B8.out) underlying97 rfl (zN o) ?_)
   refine CLn.out.mono ?_
   rintro e V9 ⟨rfl,u1,u2⟩
   have S9:Hid (St N V9 b r L8):=u1
   have T9:Hid (To b w L V9 L8):=T8.out.trans u2
   clear u1 u2 CLn
   go_wp2_with fail
   refine bodyPost_end (results_none rfl _ _ _) rfl ⟨rfl,L8,S9.out,T9.out⟩
 ·have hgt:(0:Int)<o.c.many:=by omega
  obtain⟨q1,q2,q3⟩:=HK4.out.2.2.2 hm
  obtain⟨pm,cm,em,hB⟩:=S4.out.its.im
  have k39:V4.cell? ⟨b,39,none⟩=some (.slice pm s4.n cm):=(zb S4.out.row (by omega)).trans (congrArg some em)
  have CS:Hid (∀W,Below V4.heap.size V4 W->Calls prog 63 #[.slice pm s4.n cm,.int .i64 o.i.op,.int .u32 o.c.pl,.int .u32 o.c.data] W fun e w'=>(∃h cap,e=.returned (.tuple #[.slice (some ⟨h,0,none⟩) s4.n cap,.bool true])/\Bys w' (some ⟨h,0,none⟩) s4.n cap (stoC s4.f o.c)/\W.heap.size<=h)/\Below W.heap.size W w'):=fun W hW=>by
   have:=zoT hB o.i o.c.pl o.c.data q1 HKC.out.2.pl HKC.out.2.data q3 W hW
   rw[<-q2]at this
   exact this
  have c2:V4.cell? ⟨z,2,none⟩=some (.int .i64 o.i.op):=zq B4.out 2 rfl
  have c6:V4.cell? ⟨p,6,none⟩=some (.int .u32 o.c.pl):=qT C4.out 6 rfl
  have c8:V4.cell? ⟨p,8,none⟩=some (.int .u32 o.c.data):=qT C4.out 8 rfl
  have HK4b:Hid (Nms s4/\Gu.TbOk s4.tb/\(o.rd≠0->0<=o.old/\o.old<s4.phys/\o.old∉s4.free/\∀r,r<32->s4.regs r≠o.old)):=⟨HK4.out.1,HK4.out.2.1,HK4.out.2.2.1⟩
  clear q1 q2 q3 hB em HK4 hm hm0
  go_upto_region 5 with fail
  refine zx (S:=fun w'=>w'.cell? ⟨b,39,none⟩=some (.slice pm s4.n cm)/\w'.cell? ⟨z,2,none⟩=some (.int .i64 o.i.op)/\w'.cell? ⟨p,6,none⟩=some (.int .u32 o.c.pl)/\w'.cell? ⟨p,8,none⟩=some (.int .u32 o.c.data)) [20] (by kernel_rfl) (⟨k39,c2,c6,c8⟩) (fun hH=>?_)
  refine tU 0 (.pointer (some ⟨b,0,none⟩)) rfl hH ?_;try go_simp
  refine tU 1 (.pointer (some ⟨b,0,none⟩)) rfl hH ?_;try go_simp
  refine tU 2 (.pointer (some ⟨b,0,none⟩)) rfl hH ?_;try go_simp
  refine tU 3 (.pointer (some ⟨b,3,none⟩)) rfl hH ?_;try go_simp
  refine tU 4 (.pointer (some ⟨b,39,none⟩)) rfl hH ?_;try go_simp
  refine tS 5 (.slice pm s4.n cm) rfl (Or.inl ⟨by rfl,by intro wz hSw;have hc:=hSw.1;go_simp⟩) hH ?_;try go_simp
  refine tU 6 (.pointer (some ⟨z,2,none⟩)) rfl hH ?_;try go_simp
  refine tU 7 (.pointer (some ⟨z,2,none⟩)) rfl hH ?_;try go_simp
  refine tS 8 (.int .i64 o.i.op) rfl (Or.inl ⟨by rfl,by intro wz hSw;have hc:=hSw.2.1;go_simp⟩) hH ?_;try go_simp
  refine tU 9 (.pointer (some ⟨p,6,none⟩)) rfl hH ?_;try go_simp
  refine tS 10 (.int .u32 o.c.pl) rfl (Or.inl ⟨by rfl,by intro wz hSw;have hc:=hSw.2.2.1;go_simp⟩) hH ?_;try go_simp
  refine tU 11 (.pointer (some ⟨p,8,none⟩)) rfl hH ?_;try go_simp
  refine tS 12 (.int .u32 o.c.data) rfl (Or.inl ⟨by rfl,by intro wz hSw;have hc:=hSw.2.2.2;go_simp⟩) hH ?_;try go_simp
  refine zC 13 rfl (fun K hK=>?_)
  go_simp
  refine(CS.out _ ((Below.refl _ _).drew)).mono ?_
  rintro e V5 ⟨⟨h5,d5,rfl,hB5,hh5⟩,hk5⟩
  have HK5:Hid (Below V4.heap.size V4 V5):=zi hk5 (Nat.le_refl _)
  have HB5:Hid (Bys V5 (some ⟨h5,0,none⟩) s4.n d5 (stoC s4.f o.c)/\V4.heap.size<=h5):=⟨hB5,hh5⟩
  clear hB5 hh5
  go_wp2_with fail
  refine hK.out _ _ (⟨zn hk5 (hH.1),zn hk5 (hH.2.1),zn hk5 (hH.2.2.1),zn hk5 (hH.2.2.2)⟩) (fun hN=>?_)
  clear hK K hH
  have hH:=hN
  clear hN
  try go_simp
  have S5:Hid (St N V5 b s4 L2):=S4.out.below HK5.out
  have cA:=hH.1
  have fA:=S5.out.frozen 39
  refine tU 14 (.tuple #[.slice (some ⟨h5,0,none⟩) s4.n d5,.bool true]) rfl hH ?_;try go_simp
  refine tU 15 (.slice (some ⟨h5,0,none⟩) s4.n d5) rfl hH ?_;try go_simp
  refine tU 16 (.bool true) rfl hH ?_;try go_simp
  refine tU 17 (.pointer (some ⟨b,0,none⟩)) rfl hH ?_;try go_simp
  refine tU 18 (.pointer (some ⟨b,3,none⟩)) rfl hH ?_;try go_simp
  refine tU 19 (.pointer (some ⟨b,39,none⟩)) rfl hH ?_;try go_simp
  refine zL 20 rfl (fun K hK=>?_)
  go_simp
  refine hK.out _ _ ?_
  clear hK K
  try go_simp
  refine zJ (by kernel_rfl) ?_ _
  obtain⟨s6,t6⟩:=S5.out.setMem HB5.out.1 (fun y hy h=>by have e:=Option.some.inj hy;subst e;have h1:h5<V4.heap.size:=qR S4.out h;have:=HB5.out.2;omega)
  have S6:Hid (St N (V5.setCell ⟨b,39,none⟩ (.slice (some ⟨h5,0,none⟩) s4.n d5)) b {s4 with f:=stoC s4.f o.c} {L2 with m:=.slice (some ⟨h5,0,none⟩) s4.n d5}):=s6
  have T6:Hid (To b w L (V5.setCell ⟨b,39,none⟩ (.slice (some ⟨h5,0,none⟩) s4.n d5)) {L2 with m:=.slice (some ⟨h5,0,none⟩) s4.n d5}):=(T4.out.trans (ze L2 HK5.out)).trans t6
  have B6:Hid (Bx (V5.setCell ⟨b,39,none⟩ (.slice (some ⟨h5,0,none⟩) s4.n d5)) z o):=(B4.out.below HK5.out).to t6 z2.out
  have z6:Hid (¬own b {L2 with m:=.slice (some ⟨h5,0,none⟩) s4.n d5} z):=z2.out
  clear s6 t6 hH HB5 HK5 S5 S4 T4 B4 C4 z2 p2 cA fA k39 c2 c6 c8 c7 CS
  generalize V5.setCell ⟨b,39,none⟩ (.slice (some ⟨h5,0,none⟩) s4.n d5)=V6 at*
  generalize ({L2 with m:=.slice (some ⟨h5,0,none⟩) s4.n d5}:Sls)=L6 at*
  obtain⟨s5,hs5⟩:∃s5:Cr,s5={s4 with f:=stoC s4.f o.c}:=⟨_,rfl⟩
  have HR3:Hid (r={s5 with free:=if o.rd=0 then s5.free else s5.free++[o.old],tb:=learn mach s5.tb o}):=by show _=_;rw[HR2.out,hs5]
  have HK5:Hid (Nms s5/\Gu.TbOk s5.tb/\(o.rd≠0->0<=o.old/\o.old<s5.phys/\o.old∉s5.free/\∀r,r<32->s5.regs r≠o.old)):=by
   rw[hs5]
   exact⟨⟨HK4b.out.1.low,HK4b.out.1.high,HK4b.out.1.dis⟩,HK4b.out.2.1,HK4b.out.2.2⟩
  rw[<-hs5]at S6
  clear hs5 HK4b HR2
  obtain⟨k,hk⟩:∃k,k=o.rd:=⟨_,rfl⟩
  have c10:V6.cell? ⟨z,10,none⟩=some (.int .i64 (k:Int)):=zq B6.out 10 (by rw[hk];rfl)
  rw[<-hk]at HR3 HK5
  clear hk
  by_cases h0:k=0
  ·have c10':V6.cell? ⟨z,10,none⟩=some (.int .i64 0):=by rw[c10,h0];rfl
   have HR4:Hid (r={s5 with tb:=learn mach s5.tb o}):=by
    show _=_
    rw[HR3.out,if_pos h0]
   have CLn:Hid (Calls prog 65 #[.pointer (some ⟨b,0,none⟩),dgv o] V6 fun e w'=>e=.returned (.tuple #[])/\St N w' b r L6/\To b V6 L6 w' L6):=by rw[HR4.out];exact xF S6.out HK5.out.2.1 o HKC.out.1 HKC.out.2
   clear c10 h0 HR3 HR4 HK5 HKC
   go_wp2_with(refine wpList_load_mid rfl 97 _ rfl z 0 rfl (dgl o) _ (jJ B6.out) underlying97 rfl (zN o) ?_)
   refine CLn.out.mono ?_
   rintro e V9 ⟨rfl,u1,u2⟩
   have S9:Hid (St N V9 b r L6):=u1
   have T9:Hid (To b w L V9 L6):=T6.out.trans u2
   clear u1 u2 CLn
   go_wp2_with fail
   refine bodyPost_end (results_none rfl _ _ _) rfl ⟨rfl,L6,S9.out,T9.out⟩
  ·have hb0:((k:Int) != 0)=true:=by simp[h0]
   obtain⟨p2,p3,p4,p5⟩:=HK5.out.2.2 h0
   have CG:Hid (∀W,Below V6.heap.size V6 W->Calls prog 64 #[.agg (rowOf (mat s5.phys s5.regs L6.f) 34),.int .i64 o.old] W fun e w'=>(∃a c,e=.returned (.tuple #[.agg (rowOf (mat s5.phys s5.regs (.slice a (s5.free++[o.old]).length c)) 34),.bool true])/\Re.Lie w' a (s5.free++[o.old]).length c (fun i=>(s5.free++[o.old]).getD i 0)/\FarC W.heap.size a)/\Below W.heap.size W w'):=fun W hW=>by
    have:=zoY S6.out HK5.out.1 o.old p2 p3 p4 p5 W hW
    rw[Array.toArray_toList]at this
    exact this
   obtain⟨fl,hfl⟩:∃fl,fl=s5.free++[o.old]:=⟨_,rfl⟩
   have HR4:Hid (r={s5 with free:=fl,tb:=learn mach s5.tb o}):=by
    show _=_
    rw[HR3.out,if_neg h0,hfl]
   rw[<-hfl]at CG
   have c12:V6.cell? ⟨z,12,none⟩=some (.int .i64 o.old):=zq B6.out 12 rfl
   have HTB:Hid (Gu.TbOk s5.tb):=HK5.out.2.1
   clear p2 p3 p4 p5 hfl h0 HR3 HK5
   go_upto_region 7 with fail
   refine zx (S:=fun w'=>w'.rangeAt b 107 (mpL s5 L6)/\w'.cell? ⟨z,12,none⟩=some (.int .i64 o.old)) [13] (by kernel_rfl) (⟨S6.out.names,c12⟩) (fun hH=>?_)
   refine tU 0 (.pointer (some ⟨b,0,none⟩)) rfl hH ?_;try go_simp
   refine tU 1 (.pointer (some ⟨b,0,none⟩)) rfl hH ?_;try go_simp
   refine tU 2 (.pointer (some ⟨b,0,none⟩)) rfl hH ?_;try go_simp
   refine tU 3 (.pointer (some ⟨b,107,none⟩)) rfl hH ?_;try go_simp
   refine tS 4 (.agg (mpL s5 L6).toArray) rfl (yieldsIf_load_mid (by rfl) 54 _ rfl _ _ rfl (mpL s5 L6) _ (fun wz hSw=>hSw.1) underlying54 rfl (jf _ _ _)) hH ?_;try go_simp
   refine tU 5 (.pointer (some ⟨z,12,none⟩)) rfl hH ?_;try go_simp
   refine tS 6 (.int .i64 o.old) rfl (Or.inl ⟨by rfl,by intro wz hSw;have hc:=hSw.2;go_simp⟩) hH ?_;try go_simp
   refine zC 7 rfl (fun K hK=>?_)
   go_simp
   refine(CG.out _ ((Below.refl _ _).drew)).mono ?_
   rintro e V7 ⟨⟨a7,c7,rfl,hl7,hf7⟩,hk7⟩
   have HK7:Hid (Below V6.heap.size V6 V7):=zi hk7 (Nat.le_refl _)
   have HL7:Hid (Re.Lie V7 a7 fl.length c7 (fun i=>fl.getD i 0)/\FarC V6.heap.size a7):=⟨hl7,hf7⟩
   clear hl7 hf7
   go_wp2_with fail
   refine hK.out _ _ (⟨jy hk7 (hH.1),zn hk7 (hH.2)⟩) (fun hN=>?_)
   clear hK K hH
   have hH:=hN
   clear hN
   try go_simp
   have S7:Hid (St N V7 b s5 L6):=S6.out.below HK7.out
   obtain⟨s8,t8⟩:=S7.out.setNames s5.regs HL7.out.1 (qX S6.out (Nat.le_refl _) HL7.out.2)
   have S8:Hid (St N (V7.setCells b 107 (rowOf (mat s5.phys s5.regs (.slice a7 fl.length c7)) 34).toList) b {s5 with free:=fl} {L6 with f:=.slice a7 fl.length c7}):=s8
   have T8:Hid (To b w L (V7.setCells b 107 (rowOf (mat s5.phys s5.regs (.slice a7 fl.length c7)) 34).toList) {L6 with f:=.slice a7 fl.length c7}):=(T6.out.trans (ze L6 HK7.out)).trans t8
   have B8:Hid (Bx (V7.setCells b 107 (rowOf (mat s5.phys s5.regs (.slice a7 fl.length c7)) 34).toList) z o):=(B6.out.below HK7.out).to t8 z6.out
   clear s8 t8
   refine tU 8 (.tuple #[.agg (rowOf (mat s5.phys s5.regs (.slice a7 fl.length c7)) 34),.bool true]) rfl hH ?_;try go_simp
   refine tU 9 (.agg (rowOf (mat s5.phys s5.regs (.slice a7 fl.length c7)) 34)) rfl hH ?_;try go_simp
   refine tU 10 (.bool true) rfl hH ?_;try go_simp
   refine tU 11 (.pointer (some ⟨b,0,none⟩)) rfl hH ?_;try go_simp
   refine tU 12 (.pointer (some ⟨b,107,none⟩)) rfl hH ?_;try go_simp
   refine zL 13 rfl (fun K hK=>?_)
   rw[if_pos (by rfl)]
   refine wp_store_mid 54 _ _ rfl b 107 (rowOf (mat s5.phys s5.regs (.slice a7 fl.length c7)) 34) rfl rfl (by rw[zf];exact S7.out.there 107 34 (by omega)) (by have:=jf s5.phys s5.regs (.slice a7 fl.length c7);rw[Array.length_toList]at this;exact this) (kH _ _ _ _ _) ?_
   refine hK.out _ _ ?_
   clear hK K
   try go_simp
   refine zJ (by kernel_rfl) ?_ _
   clear hH
   have HK7c:Hid (Gu.TbOk s5.tb):=HTB.out
   generalize V7.setCells b 107 (rowOf (mat s5.phys s5.regs (.slice a7 fl.length c7)) 34).toList=V8 at*
   generalize ({L6 with f:=.slice a7 fl.length c7}:Sls)=L8 at*
   have CLn:Hid (Calls prog 65 #[.pointer (some ⟨b,0,none⟩),dgv o] V8 fun e w'=>e=.returned (.tuple #[])/\St N w' b r L8/\To b V8 L8 w' L8):=by rw[HR4.out];exact xF S8.out HTB.out o HKC.out.1 HKC.out.2
   clear HR4 HKC HTB HK7c
   go_wp2_with(refine wpList_load_mid rfl 97 _ rfl z 0 rfl (dgl o) _ (jJ B8.out) underlying97 rfl (zN o) ?_)
   refine CLn.out.mono ?_
   rintro e V9 ⟨rfl,u1,u2⟩
   have S9:Hid (St N V9 b r L8):=u1
   have T9:Hid (To b w L V9 L8):=T8.out.trans u2
   clear u1 u2 CLn
   go_wp2_with fail
   refine bodyPost_end (results_none rfl _ _ _) rfl ⟨rfl,L8,S9.out,T9.out⟩
end Go.Proofs.YtpiohehijkpghabGreatDoor.Co
