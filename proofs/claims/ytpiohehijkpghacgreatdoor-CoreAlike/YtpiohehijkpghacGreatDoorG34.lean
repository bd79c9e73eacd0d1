/- A core that learns: the program. -/
import Derived.Test.YtpiohehijkpghacGreatDoorG33
import Derived.Test.YtpiohehijkpghacGreatDoorG01
set_option maxRecDepth 20000
set_option maxHeartbeats 6000000
namespace Go.Proofs.YtpiohehijkpghacGreatDoor.Co
open Go.RowKit
open Hy
open Wi Od Re.Hy
open Gu.Hy (Tb tcs)
set_option linter.unusedVariables false
set_option linter.unusedSimpArgs false
theorem cLearnB {t:Tb} (pc g:Int) (tk:Bool) (hp:U32 pc) (w:World):Calls Tryz.prog 117 #[.agg (rowOf (tat t) 64),.int .u32 pc,.bool tk,.int .u32 g] w fun e w'=>e=.returned (.agg (rowOf (tat (lbM t pc tk g)) 64))∧Below w.heap.size w w':=by
 rw[←tcs_row,←tcs_row]
 exact Gu.gB t pc g hp.1 hp.2 tk w
theorem cLearnV {t:Tb} (ht:Gu.TbOk t) (pc v:Int) (hp:U32 pc) (hv:U32 v) (w:World):Calls Tryz.prog 118 #[.agg (rowOf (tat t) 64),.int .u32 pc,.int .u32 v] w fun e w'=>e=.returned (.agg (rowOf (tat (lvM t pc v)) 64))∧Below w.heap.size w w':=by
 rw[←tcs_row,←tcs_row]
 exact Gu.gV t ht pc v hp.1 hp.2 hv.1 hv.2 w
theorem tat_one (t:Tb) (i:Nat):(tat t i).oneCell'=true:=by
 unfold tat
 split
 ·split<;>rfl
 ·split
  ·rfl
  ·split
   ·rfl
   ·split<;>rfl
theorem tb_ones (t:Tb):(rowOf (tat t) 64).all (·.oneCell')=true:=row_ones _ _ fun i _=>tat_one t i
theorem tb_size (t:Tb):(Tryz.prog.info? 56).map (·.size)=some (rowOf (tat t) 64).size:=by rw[rowOf_size];exact Gu.size_table
theorem Bx.cm {w:World} {q:Nat} {o:Dg} (h:Bx w q o):w.rangeAt q 17 (cC o.c).toList:=bx_rng h fun i v hi=>by
 have hl:i<11:=by have:=(List.getElem?_eq_some_iff.1 hi).1;simpa[cC]using this
 rcases(by omega:i=0∨i=1∨i=2∨i=3∨i=4∨i=5∨i=6∨i=7∨i=8∨i=9∨i=10)with rfl|rfl|rfl|rfl|rfl|rfl|rfl|rfl|rfl|rfl|rfl<;>exact hi
theorem trn_ld {i:In} (h:trn i=true):ldn i.op=0:=by
 have h':4≤i.op∧i.op≤10:=by simpa[trn]using h
 unfold ldn
 rw[if_neg (by omega),if_neg (by omega),if_neg (by omega)]
theorem clearn_any {N:Nat} {w:World} {b:Nat} {s:Cr} {L:Sls} (S:St N w b s L) (ht:Gu.TbOk s.tb) (o:Dg) (hp:U32 o.pc) (hc:CmR o.c):
  Calls Tryz.prog 80 #[.pointer (some ⟨b,0,none⟩),dgv o] w fun e w'=>e=.returned (.tuple #[])∧St N w' b {s with tb:=learn mach s.tb o} L∧To b w L w' L:=by
 obtain⟨r,hr⟩:∃r,r=learn mach s.tb o:=⟨_,rfl⟩
 rw[←hr]
 obtain⟨E,hE⟩:∃E,E=(cC o.c).toList.toArray:=⟨_,rfl⟩
 have HE:Hid (E=(cC o.c).toList.toArray):=hE
 have HI:Hid ((Tryz.prog.info? 68).map (·.size)=some E.size∧11=E.size∧E.all (·.oneCell')=true):=by rw[hE];exact⟨size_commit,rfl,cC_ones o.c⟩
 have CT:=fun W=>cturns_any o.i W
 have CL:=fun W=>loaded_any o.i.op W
 obtain⟨y,hy⟩:∃y,IntKind.u32.wrap (o.pc+4)=y:=⟨_,rfl⟩
 have ey:(o.pc+4)%4294967296=y:=by rw[←hy,wrapU]
 have HTK:Hid (∀tk,tk=(decide (o.i.op=4)||!decide (o.c.next=y))→r=learn mach s.tb o∧(trn o.i=true→r=lbM s.tb o.pc tk o.c.next)∧(trn o.i=false→r=if ldn o.i.op≠0∧o.c.rd≠0 then lvM s.tb o.pc o.c.val else s.tb)):=fun tk htk=>by
  refine⟨hr,fun h=>?_,fun h=>?_⟩
  ·rw[hr]
   unfold learn
   simp only[h,if_true]
   rw[trn_ld h,if_neg (by simp),ey,←htk]
   rfl
  ·rw[hr]
   unfold learn
   simp only[h,Bool.false_eq_true,if_false]
   rfl
 clear hr hE ey
 go_enter Tryz.func80,Tryz.ntmps80
 go_upto_region 1 with fail
 refine Wi.one_box (Φ:=fun W=>Code.wp _ _ _ _ W) ?_
 intro V hV hVb
 have BV:Hid (Bx V w.heap.size o):=hV
 have SV:Hid (St N V b s L):=S.below hVb
 have TV:Hid (To b w L V L):=to_below L hVb
 have hzo:Hid (¬own b L w.heap.size):=fun h=>by have:=own_lt S h;omega
 clear hV hVb S
 generalize w.heap.size=z at*
 go_upto_region 2 with(first|(refine wpList_load_mid rfl 68 _ rfl z 17 rfl (cC o.c).toList _ BV.out.cm Tryz.underlying68 rfl (cC_size o.c) ?_;rw[←HE.out])|(refine wpList_store_row rfl 68 _ _ rfl _ _ rfl rfl 68 _ (heap_alloc_new _ _) HI.out.1 HI.out.2.1 HI.out.2.2 ?_;rw[World.setRow_alloc_new]))
 refine Wi.one_box (Φ:=fun W=>Code.wp _ _ _ _ W) ?_
 intro V1 h1 hb
 have C1:Hid (Cb V1 V.heap.size o.c):=by show _=_;rw[h1,HE.out]
 have B1:Hid (Bx V1 z o):=BV.out.below hb
 have S1:Hid (St N V1 b s L):=SV.out.below hb
 have T1:Hid (To b w L V1 L):=TV.out.trans (to_below L hb)
 clear h1 hb BV SV TV HI HE
 generalize V.heap.size=p at*
 go_wp2_with(refine wpList_load_mid rfl 78 _ rfl z 2 rfl (ivL o.i).toList _ (ivl_rng B1.out) Tryz.underlying78 rfl (ivl_size _) ?_)
 refine(CT _).mono ?_
 rintro e V2 ⟨rfl,hk2⟩
 have C2:Hid (Cb V2 p o.c):=C1.out.below hk2
 have B2:Hid (Bx V2 z o):=B1.out.below hk2
 have S2:Hid (St N V2 b s L):=S1.out.below hk2
 have T2:Hid (To b w L V2 L):=T1.out.trans (to_below L hk2)
 clear hk2 C1 B1 S1 T1 CT
 have c2:V2.cell? ⟨z,2,none⟩=some (.int .i64 o.i.op):=bx_row B2.out 2 rfl
 have c1:V2.cell? ⟨z,1,none⟩=some (.int .u32 o.pc):=bx_row B2.out 1 rfl
 have n1:V2.cell? ⟨p,1,none⟩=some (.int .u32 o.c.next):=cb_row C2.out 1 rfl
 have l0:=ldn_le o.i.op
 cases htr:trn o.i with
 |true=>
  have hl0:=trn_ld htr
  rw[hl0]at CL
  have HTK2:Hid (∀tk,tk=(decide (o.i.op=4)||!decide (o.c.next=y))→r=lbM s.tb o.pc tk o.c.next):=fun tk h=>(HTK.out tk h).2.1 htr
  clear HTK htr hl0 l0
  obtain⟨op,hop⟩:∃op,op=o.i.op:=⟨_,rfl⟩
  obtain⟨nx,hnx⟩:∃nx,nx=o.c.next:=⟨_,rfl⟩
  rw[←hop]at c2 HTK2 CL
  rw[←hnx]at n1 HTK2
  have HOP:Hid (op=o.i.op):=hop
  have HNX:Hid (nx=o.c.next):=hnx
  clear hop hnx
  by_cases h4:op=4
  ·have htk:r=lbM s.tb o.pc true nx:=HTK2.out true (by simp[h4])
   subst h4
   clear HTK2
   have CB:Hid (∀W,Calls Tryz.prog 117 #[.agg (rowOf (tat s.tb) 64),.int .u32 o.pc,.bool true,.int .u32 nx] W fun e w'=>e=.returned (.agg (rowOf (tat r) 64))∧Below W.heap.size W w'):=by rw[htk];exact fun W=>cLearnB o.pc nx true hp W
   clear htk
   go_upto_region 4 with fail
   refine startZ (S:=fun w'=>w'.rangeAt b 43 (tbL s.tb)∧w'.cell? ⟨z,1,none⟩=some (.int .u32 o.pc)∧w'.cell? ⟨p,1,none⟩=some (.int .u32 nx)) [13] (by kernel_rfl) (⟨S2.out.table,c1,n1⟩) (fun hH=>?_)
   refine tU 0 (.pointer (some ⟨b,0,none⟩)) rfl hH ?_;try go_simp
   refine tU 1 (.pointer (some ⟨b,0,none⟩)) rfl hH ?_;try go_simp
   refine tU 2 (.pointer (some ⟨b,0,none⟩)) rfl hH ?_;try go_simp
   refine tU 3 (.pointer (some ⟨b,43,none⟩)) rfl hH ?_;try go_simp
   refine tS 4 (.agg (tbL s.tb).toArray) rfl (yieldsIf_load_mid (by rfl) 56 _ rfl _ _ rfl (tbL s.tb) _ (fun wz hSw=>hSw.1) Tryz.underlying56 rfl (tbL_size _)) hH ?_;try go_simp
   refine tU 5 (.pointer (some ⟨z,1,none⟩)) rfl hH ?_;try go_simp
   refine tS 6 (.int .u32 o.pc) rfl (Or.inl ⟨by rfl,by intro wz hSw;have hc:=hSw.2.1;go_simp⟩) hH ?_;try go_simp
   refine tU 7 (.bool true) rfl hH ?_;try go_simp
   refine tU 8 (.pointer (some ⟨p,1,none⟩)) rfl hH ?_;try go_simp
   refine tS 9 (.int .u32 nx) rfl (Or.inl ⟨by rfl,by intro wz hSw;have hc:=hSw.2.2;go_simp⟩) hH ?_;try go_simp
   refine zC 10 rfl (fun K hK=>?_)
   go_simp
   refine(CB.out _).mono ?_
   rintro e V4 ⟨rfl,hk4⟩
   have HK4:Hid (Below V2.heap.size V2 V4):=below_first hk4 (Nat.le_refl _)
   go_wp2_with fail
   refine hK.out _ _ (⟨keepR hk4 (hH.1),keepC hk4 (hH.2.1),keepC hk4 (hH.2.2)⟩) (fun hN=>?_)
   clear hK K hH
   have hH:=hN
   clear hN
   try go_simp
   have S4:Hid (St N V4 b s L):=S2.out.below HK4.out
   obtain⟨s5,t5⟩:=S4.out.setTb r
   have S5:Hid (St N (V4.setCells b 43 (rowOf (tat r) 64).toList) b {s with tb:=r} L):=s5
   have T5:Hid (To b w L (V4.setCells b 43 (rowOf (tat r) 64).toList) L):=(T2.out.trans (to_below L HK4.out)).trans t5
   have B5:Hid (Bx (V4.setCells b 43 (rowOf (tat r) 64).toList) z o):=(B2.out.below HK4.out).to t5 hzo.out
   clear s5 t5
   refine tU 11 (.pointer (some ⟨b,0,none⟩)) rfl hH ?_;try go_simp
   refine tU 12 (.pointer (some ⟨b,43,none⟩)) rfl hH ?_;try go_simp
   refine zL 13 rfl (fun K hK=>?_)
   rw[if_pos (by rfl)]
   refine wp_store_mid 56 _ _ rfl b 43 (rowOf (tat r) 64) rfl rfl (by rw[rowOf_size];exact S4.out.there 43 64 (by omega)) (tb_size r) (tb_ones r) ?_
   refine hK.out _ _ ?_
   clear hK K
   try go_simp
   refine doneZ (by kernel_rfl) ?_ _
   clear hH HK4 S4 S2 T2 B2 C2 c1 c2 n1 CB
   generalize V4.setCells b 43 (rowOf (tat r) 64).toList=V5 at*
   have c2:V5.cell? ⟨z,2,none⟩=some (.int .i64 4):=bx_row B5.out 2 (by first|rfl|(rw[HOP.out];rfl))
   go_wp2_with fail
   refine(CL _).mono ?_
   rintro e V6 ⟨rfl,hk6⟩
   subst hk6
   go_wp2_with fail
   refine bodyPost_end (results_none rfl _ _ _) rfl ⟨rfl,S5.out,T5.out⟩
  ·have h4':(op==4)=false:=by simpa using h4
   by_cases hn:nx=y
   ·have htk:r=lbM s.tb o.pc false nx:=HTK2.out false (by simp[h4,hn])
    have hn':(nx != y)=false:=by simp[hn]
    clear HTK2 hn h4
    have CB:Hid (∀W,Calls Tryz.prog 117 #[.agg (rowOf (tat s.tb) 64),.int .u32 o.pc,.bool false,.int .u32 nx] W fun e w'=>e=.returned (.agg (rowOf (tat r) 64))∧Below W.heap.size W w'):=by rw[htk];exact fun W=>cLearnB o.pc nx false hp W
    clear htk
    go_upto_region 4 with fail
    refine startZ (S:=fun w'=>w'.rangeAt b 43 (tbL s.tb)∧w'.cell? ⟨z,1,none⟩=some (.int .u32 o.pc)∧w'.cell? ⟨p,1,none⟩=some (.int .u32 nx)) [13] (by kernel_rfl) (⟨S2.out.table,c1,n1⟩) (fun hH=>?_)
    refine tU 0 (.pointer (some ⟨b,0,none⟩)) rfl hH ?_;try go_simp
    refine tU 1 (.pointer (some ⟨b,0,none⟩)) rfl hH ?_;try go_simp
    refine tU 2 (.pointer (some ⟨b,0,none⟩)) rfl hH ?_;try go_simp
    refine tU 3 (.pointer (some ⟨b,43,none⟩)) rfl hH ?_;try go_simp
    refine tS 4 (.agg (tbL s.tb).toArray) rfl (yieldsIf_load_mid (by rfl) 56 _ rfl _ _ rfl (tbL s.tb) _ (fun wz hSw=>hSw.1) Tryz.underlying56 rfl (tbL_size _)) hH ?_;try go_simp
    refine tU 5 (.pointer (some ⟨z,1,none⟩)) rfl hH ?_;try go_simp
    refine tS 6 (.int .u32 o.pc) rfl (Or.inl ⟨by rfl,by intro wz hSw;have hc:=hSw.2.1;go_simp⟩) hH ?_;try go_simp
    refine tU 7 (.bool false) rfl hH ?_;try go_simp
    refine tU 8 (.pointer (some ⟨p,1,none⟩)) rfl hH ?_;try go_simp
    refine tS 9 (.int .u32 nx) rfl (Or.inl ⟨by rfl,by intro wz hSw;have hc:=hSw.2.2;go_simp⟩) hH ?_;try go_simp
    refine zC 10 rfl (fun K hK=>?_)
    go_simp
    refine(CB.out _).mono ?_
    rintro e V4 ⟨rfl,hk4⟩
    have HK4:Hid (Below V2.heap.size V2 V4):=below_first hk4 (Nat.le_refl _)
    go_wp2_with fail
    refine hK.out _ _ (⟨keepR hk4 (hH.1),keepC hk4 (hH.2.1),keepC hk4 (hH.2.2)⟩) (fun hN=>?_)
    clear hK K hH
    have hH:=hN
    clear hN
    try go_simp
    have S4:Hid (St N V4 b s L):=S2.out.below HK4.out
    obtain⟨s5,t5⟩:=S4.out.setTb r
    have S5:Hid (St N (V4.setCells b 43 (rowOf (tat r) 64).toList) b {s with tb:=r} L):=s5
    have T5:Hid (To b w L (V4.setCells b 43 (rowOf (tat r) 64).toList) L):=(T2.out.trans (to_below L HK4.out)).trans t5
    have B5:Hid (Bx (V4.setCells b 43 (rowOf (tat r) 64).toList) z o):=(B2.out.below HK4.out).to t5 hzo.out
    clear s5 t5
    refine tU 11 (.pointer (some ⟨b,0,none⟩)) rfl hH ?_;try go_simp
    refine tU 12 (.pointer (some ⟨b,43,none⟩)) rfl hH ?_;try go_simp
    refine zL 13 rfl (fun K hK=>?_)
    rw[if_pos (by rfl)]
    refine wp_store_mid 56 _ _ rfl b 43 (rowOf (tat r) 64) rfl rfl (by rw[rowOf_size];exact S4.out.there 43 64 (by omega)) (tb_size r) (tb_ones r) ?_
    refine hK.out _ _ ?_
    clear hK K
    try go_simp
    refine doneZ (by kernel_rfl) ?_ _
    clear hH HK4 S4 S2 T2 B2 C2 c1 c2 n1 CB
    generalize V4.setCells b 43 (rowOf (tat r) 64).toList=V5 at*
    have c2:V5.cell? ⟨z,2,none⟩=some (.int .i64 op):=bx_row B5.out 2 (by first|rfl|(rw[HOP.out];rfl))
    go_wp2_with fail
    refine(CL _).mono ?_
    rintro e V6 ⟨rfl,hk6⟩
    subst hk6
    go_wp2_with fail
    refine bodyPost_end (results_none rfl _ _ _) rfl ⟨rfl,S5.out,T5.out⟩
   ·have htk:r=lbM s.tb o.pc true nx:=HTK2.out true (by simp[h4,hn])
    have hn':(nx != y)=true:=by simp[hn]
    clear HTK2 hn h4
    have CB:Hid (∀W,Calls Tryz.prog 117 #[.agg (rowOf (tat s.tb) 64),.int .u32 o.pc,.bool true,.int .u32 nx] W fun e w'=>e=.returned (.agg (rowOf (tat r) 64))∧Below W.heap.size W w'):=by rw[htk];exact fun W=>cLearnB o.pc nx true hp W
    clear htk
    go_upto_region 4 with fail
    refine startZ (S:=fun w'=>w'.rangeAt b 43 (tbL s.tb)∧w'.cell? ⟨z,1,none⟩=some (.int .u32 o.pc)∧w'.cell? ⟨p,1,none⟩=some (.int .u32 nx)) [13] (by kernel_rfl) (⟨S2.out.table,c1,n1⟩) (fun hH=>?_)
    refine tU 0 (.pointer (some ⟨b,0,none⟩)) rfl hH ?_;try go_simp
    refine tU 1 (.pointer (some ⟨b,0,none⟩)) rfl hH ?_;try go_simp
    refine tU 2 (.pointer (some ⟨b,0,none⟩)) rfl hH ?_;try go_simp
    refine tU 3 (.pointer (some ⟨b,43,none⟩)) rfl hH ?_;try go_simp
    refine tS 4 (.agg (tbL s.tb).toArray) rfl (yieldsIf_load_mid (by rfl) 56 _ rfl _ _ rfl (tbL s.tb) _ (fun wz hSw=>hSw.1) Tryz.underlying56 rfl (tbL_size _)) hH ?_;try go_simp
    refine tU 5 (.pointer (some ⟨z,1,none⟩)) rfl hH ?_;try go_simp
    refine tS 6 (.int .u32 o.pc) rfl (Or.inl ⟨by rfl,by intro wz hSw;have hc:=hSw.2.1;go_simp⟩) hH ?_;try go_simp
    refine tU 7 (.bool true) rfl hH ?_;try go_simp
    refine tU 8 (.pointer (some ⟨p,1,none⟩)) rfl hH ?_;try go_simp
    refine tS 9 (.int .u32 nx) rfl (Or.inl ⟨by rfl,by intro wz hSw;have hc:=hSw.2.2;go_simp⟩) hH ?_;try go_simp
    refine zC 10 rfl (fun K hK=>?_)
    go_simp
    refine(CB.out _).mono ?_
    rintro e V4 ⟨rfl,hk4⟩
    have HK4:Hid (Below V2.heap.size V2 V4):=below_first hk4 (Nat.le_refl _)
    go_wp2_with fail
    refine hK.out _ _ (⟨keepR hk4 (hH.1),keepC hk4 (hH.2.1),keepC hk4 (hH.2.2)⟩) (fun hN=>?_)
    clear hK K hH
    have hH:=hN
    clear hN
    try go_simp
    have S4:Hid (St N V4 b s L):=S2.out.below HK4.out
    obtain⟨s5,t5⟩:=S4.out.setTb r
    have S5:Hid (St N (V4.setCells b 43 (rowOf (tat r) 64).toList) b {s with tb:=r} L):=s5
    have T5:Hid (To b w L (V4.setCells b 43 (rowOf (tat r) 64).toList) L):=(T2.out.trans (to_below L HK4.out)).trans t5
    have B5:Hid (Bx (V4.setCells b 43 (rowOf (tat r) 64).toList) z o):=(B2.out.below HK4.out).to t5 hzo.out
    clear s5 t5
    refine tU 11 (.pointer (some ⟨b,0,none⟩)) rfl hH ?_;try go_simp
    refine tU 12 (.pointer (some ⟨b,43,none⟩)) rfl hH ?_;try go_simp
    refine zL 13 rfl (fun K hK=>?_)
    rw[if_pos (by rfl)]
    refine wp_store_mid 56 _ _ rfl b 43 (rowOf (tat r) 64) rfl rfl (by rw[rowOf_size];exact S4.out.there 43 64 (by omega)) (tb_size r) (tb_ones r) ?_
    refine hK.out _ _ ?_
    clear hK K
    try go_simp
    refine doneZ (by kernel_rfl) ?_ _
    clear hH HK4 S4 S2 T2 B2 C2 c1 c2 n1 CB
    generalize V4.setCells b 43 (rowOf (tat r) 64).toList=V5 at*
    have c2:V5.cell? ⟨z,2,none⟩=some (.int .i64 op):=bx_row B5.out 2 (by first|rfl|(rw[HOP.out];rfl))
    go_wp2_with fail
    refine(CL _).mono ?_
    rintro e V6 ⟨rfl,hk6⟩
    subst hk6
    go_wp2_with fail
    refine bodyPost_end (results_none rfl _ _ _) rfl ⟨rfl,S5.out,T5.out⟩
 |false=>
  have hr:=(HTK.out _ rfl).2.2 htr
  clear HTK htr
  obtain⟨ld,hld⟩:∃ld,ld=ldn o.i.op:=⟨_,rfl⟩
  rw[←hld]at CL hr l0
  obtain⟨k,hk⟩:∃k,k=o.c.rd:=⟨_,rfl⟩
  rw[←hk]at hr
  have c4:V2.cell? ⟨p,4,none⟩=some (.int .i64 (k:Int)):=cb_row C2.out 4 (by rw[hk];rfl)
  have HR:Hid (r=if ld≠0∧k≠0 then lvM s.tb o.pc o.c.val else s.tb):=hr
  clear hld hk hr n1
  go_wp2_with fail
  refine(CL _).mono ?_
  rintro e V3 ⟨rfl,hk3⟩
  subst hk3
  clear CL
  by_cases h0:ld=0
  ·have hr:=HR.out
   rw[if_neg (by rw[h0];exact fun h=>h.1 rfl)]at hr
   subst hr h0
   clear HR
   go_wp2_with fail
   refine bodyPost_end (results_none rfl _ _ _) rfl ⟨rfl,S2.out,T2.out⟩
  ·have hgt:(0:Int)<ld:=by omega
   by_cases hk0:k=0
   ·have hr:=HR.out
    rw[if_neg (by rw[hk0];exact fun h=>h.2 rfl)]at hr
    subst hr
    have c4':V3.cell? ⟨p,4,none⟩=some (.int .i64 0):=by rw[c4,hk0];rfl
    clear HR c4 hk0 h0
    go_wp2_with fail
    refine bodyPost_end (results_none rfl _ _ _) rfl ⟨rfl,S2.out,T2.out⟩
   ·have hr:=HR.out
    rw[if_pos ⟨h0,hk0⟩]at hr
    have HR2:Hid (r=lvM s.tb o.pc o.c.val):=hr
    have hkb:((k:Int) != 0)=true:=by simp[hk0]
    have c5:V3.cell? ⟨p,5,none⟩=some (.int .u32 o.c.val):=cb_row C2.out 5 rfl
    have CV:Hid (∀W,Calls Tryz.prog 118 #[.agg (rowOf (tat s.tb) 64),.int .u32 o.pc,.int .u32 o.c.val] W fun e w'=>e=.returned (.agg (rowOf (tat r) 64))∧Below W.heap.size W w'):=by rw[hr];exact fun W=>cLearnV ht o.pc o.c.val hp hc.val W
    clear HR hr hk0 h0
    go_upto_region 6 with fail
    refine startZ (S:=fun w'=>w'.rangeAt b 43 (tbL s.tb)∧w'.cell? ⟨z,1,none⟩=some (.int .u32 o.pc)∧w'.cell? ⟨p,5,none⟩=some (.int .u32 o.c.val)) [12] (by kernel_rfl) (⟨S2.out.table,c1,c5⟩) (fun hH=>?_)
    refine tU 0 (.pointer (some ⟨b,0,none⟩)) rfl hH ?_;try go_simp
    refine tU 1 (.pointer (some ⟨b,0,none⟩)) rfl hH ?_;try go_simp
    refine tU 2 (.pointer (some ⟨b,0,none⟩)) rfl hH ?_;try go_simp
    refine tU 3 (.pointer (some ⟨b,43,none⟩)) rfl hH ?_;try go_simp
    refine tS 4 (.agg (tbL s.tb).toArray) rfl (yieldsIf_load_mid (by rfl) 56 _ rfl _ _ rfl (tbL s.tb) _ (fun wz hSw=>hSw.1) Tryz.underlying56 rfl (tbL_size _)) hH ?_;try go_simp
    refine tU 5 (.pointer (some ⟨z,1,none⟩)) rfl hH ?_;try go_simp
    refine tS 6 (.int .u32 o.pc) rfl (Or.inl ⟨by rfl,by intro wz hSw;have hc:=hSw.2.1;go_simp⟩) hH ?_;try go_simp
    refine tU 7 (.pointer (some ⟨p,5,none⟩)) rfl hH ?_;try go_simp
    refine tS 8 (.int .u32 o.c.val) rfl (Or.inl ⟨by rfl,by intro wz hSw;have hc:=hSw.2.2;go_simp⟩) hH ?_;try go_simp
    refine zC 9 rfl (fun K hK=>?_)
    go_simp
    refine(CV.out _).mono ?_
    rintro e V4 ⟨rfl,hk4⟩
    have HK4:Hid (Below V3.heap.size V3 V4):=below_first hk4 (Nat.le_refl _)
    go_wp2_with fail
    refine hK.out _ _ (⟨keepR hk4 (hH.1),keepC hk4 (hH.2.1),keepC hk4 (hH.2.2)⟩) (fun hN=>?_)
    clear hK K hH
    have hH:=hN
    clear hN
    try go_simp
    have S4:Hid (St N V4 b s L):=S2.out.below HK4.out
    obtain⟨s5,t5⟩:=S4.out.setTb r
    have S5:Hid (St N (V4.setCells b 43 (rowOf (tat r) 64).toList) b {s with tb:=r} L):=s5
    have T5:Hid (To b w L (V4.setCells b 43 (rowOf (tat r) 64).toList) L):=(T2.out.trans (to_below L HK4.out)).trans t5
    have B5:Hid (Bx (V4.setCells b 43 (rowOf (tat r) 64).toList) z o):=(B2.out.below HK4.out).to t5 hzo.out
    clear s5 t5
    refine tU 10 (.pointer (some ⟨b,0,none⟩)) rfl hH ?_;try go_simp
    refine tU 11 (.pointer (some ⟨b,43,none⟩)) rfl hH ?_;try go_simp
    refine zL 12 rfl (fun K hK=>?_)
    rw[if_pos (by rfl)]
    refine wp_store_mid 56 _ _ rfl b 43 (rowOf (tat r) 64) rfl rfl (by rw[rowOf_size];exact S4.out.there 43 64 (by omega)) (tb_size r) (tb_ones r) ?_
    refine hK.out _ _ ?_
    clear hK K
    try go_simp
    refine doneZ (by kernel_rfl) ?_ _
    clear hH
    go_wp2_with fail
    refine bodyPost_end (results_none rfl _ _ _) rfl ⟨rfl,S5.out,T5.out⟩
end Go.Proofs.YtpiohehijkpghacGreatDoor.Co
