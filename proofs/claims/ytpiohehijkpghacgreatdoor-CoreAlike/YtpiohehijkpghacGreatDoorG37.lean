/- A core that loads a word: the program. -/
import Derived.Test.YtpiohehijkpghacGreatDoorG36
import Derived.Test.YtpiohehijkpghacGreatDoorG01
set_option maxRecDepth 20000
set_option maxHeartbeats 8000000
namespace Go.Proofs.YtpiohehijkpghacGreatDoor.Co
open Go.RowKit
open Hy
open Wi Od Re.Hy
open Gu.Hy (Tb tcs)
set_option linter.unusedVariables false
set_option linter.unusedSimpArgs false
theorem ld_op {op:Int} (h:ldn op≠0):11≤op∧op≤15:=by
 unfold ldn at h
 by_cases h1:op=11∨op=14
 ·omega
 ·rw[if_neg h1]at h
  by_cases h2:op=12∨op=15
  ·omega
  ·rw[if_neg h2]at h
   by_cases h3:op=13
   ·omega
   ·rw[if_neg h3]at h;exact absurd rfl h
theorem cm_load {n:Nat} {i:In} {pc v:Int} (h:ldn i.op≠0):CmIs n i pc (onC pc i.rd v):=by
 have:=ld_op h
 refine⟨.inl rfl,fun _=>?_,fun h=>absurd rfl h⟩
 show i.rd=gvs i
 unfold gvs
 rw[if_neg (by omega)]
theorem cm_trap {n:Nat} {i:In} {pc k:Int} (h:ldn i.op≠0):CmIs n i pc (trapC pc k):=by
 have:=ld_op h
 exact cmIs_trap n i pc k (by omega) (trn_not (.inr (by omega)))
theorem al_ask {K:Int} {s:Cr} {m:Nat→Int} (A:Al mach K s m) {l1 l2:List Dg} {o:Dg} (hu:s.under=l1++o::l2) (x many:Int) (hx:U32 x) (hm:0≤many∧many≤4):Al mach (K+1) {s with asked:=s.asked++[ldA o.seq x many]} m:=
 ⟨inv_ask A.inv hu x many,ldA_rg A.rg hx hm,uq_load A.uq rfl,A.low,A.tak,A.wid,A.bck⟩
theorem ldv_see {s:Cr} {op seq x:Int} {mN:Nat} (hm:ldn op=(mN:Int)) (h0:ldn op≠0) (hf:∀i,i<s.n→0≤s.f i∧s.f i≤255) (h:fits s.n x mN=true):ldv op (bt (seeV s.asked seq x mN s.f))=ldv op (sb s.asked seq s.asked.length x.toNat s.f):=by
 have hp:=fits_pos h
 have hl:=ldn_le op
 refine ldv_congr h0 fun k hk=>?_
 unfold seeV
 rw[Int.toNat_natCast]
 exact bt_le (by omega) (fun i hi=>sb_rng (hf _ (by omega))) k (by omega)
theorem loaded_b (op:Int) (W:World):Calls Tryz.prog 85 #[.int .i64 op] W fun e w'=>e=.returned (.int .u32 (ldn op))∧Below W.heap.size W w':=by
 refine(loaded_any op W).mono ?_
 rintro e w' ⟨rfl,rfl⟩
 exact⟨rfl,Below.refl _ _⟩
theorem cloadOne_any {N:Nat} {w:World} {b:Nat} {s:Cr} {L:Sls} (S:St N w b s L) {m:Nat→Int} {K:Int} (A:Al mach K s m) (hK:K≤7000000) {l1 l2:List Dg} {o:Dg} (hu:s.under=l1++o::l2) (h1:o.st=1):
  Calls Tryz.prog 59 #[.pointer (some ⟨b,0,none⟩),.int .i64 (l1.length:Int)] w fun e w'=>e=.returned (.tuple #[])∧∃L',St N w' b (lod1 s o) L'∧To b w L w' L':=by
 obtain⟨iA,hi,hz0,hz1,hz2⟩:=info_parts infoA
 have ho:o∈s.under:=by rw[hu];simp
 have hdr:=A.rg.und o ho
 have hl0:=st1_ld A.inv ho h1
 obtain⟨ra0,_,_,_⟩:=reads_rng mach_ok A.inv ho A.rg.phys
 have hwa:=A.rg.wd o.a
 obtain⟨mN,hmN⟩:∃mN:Nat,ldn o.i.op=(mN:Int):=Int.eq_ofNat_of_zero_le (ldn_le _).1
 have hmc:mN=1∨mN=2∨mN=4:=by rcases ldn_cases o.i.op with h|h|h|h<;>omega
 obtain⟨x,hx⟩:∃x:Nat,o.a=(x:Int):=Int.eq_ofNat_of_zero_le ra0.1
 have hx1:x<96:=by have:=ra0.2;omega
 have him:-2147483648≤o.i.im∧o.i.im≤2147483647:=by
  rcases hdr.i with h|h
  ·rw[h];decide
  ·exact⟨h.i0,h.i1⟩
 obtain⟨wx,hwx⟩:∃wx,wx=s.wd (x:Int):=⟨_,rfl⟩
 obtain⟨iw,hiw⟩:∃iw,IntKind.u32.wrap o.i.im=iw:=⟨_,rfl⟩
 obtain⟨pl,hpl⟩:∃pl,IntKind.u32.wrap (wx+iw)=pl:=⟨_,rfl⟩
 have epl:place o.i (s.wd o.a)=pl:=by rw[←hpl,←hiw,hx,hwx,wrapU,wrapU];unfold place;omega
 have hplU:U32 pl:=by rw[←epl];exact u_place _ _
 obtain⟨ok,hok⟩:∃ok,ok=fits s.n pl mN:=⟨_,rfl⟩
 obtain⟨su,hsu⟩:∃su,su=(fits s.n pl mN&&seeU s.asked o.seq):=⟨_,rfl⟩
 obtain⟨vv,hvv⟩:∃vv,vv=if fits s.n pl mN then seeV s.asked o.seq pl mN s.f else 0:=⟨_,rfl⟩
 have hvU:U32 vv:=by
  rw[hvv]
  split
  ·rename_i hf
   exact see_rng A.rg.f (by omega) hf
  ·exact u0
 have CSe:Hid (∀W,Below w.heap.size w W→Calls Tryz.prog 86 #[L.a,L.m,.int .i64 o.seq,.int .u32 pl,.int .i64 (mN:Int)] W fun e w'=>e=.returned (.tuple #[.int .u32 vv,.bool ok,.bool su])∧Below W.heap.size W w'):=fun W hW=>by
  have:=cSee S A.rg.ask (by have:=A.rg.lenA;omega) o.seq pl hplU mN hmc W hW
  unfold seeA at this
  rw[←hsu,←hvv,←hok]at this
  exact this
 obtain⟨r,hrr⟩:∃r,r=lod1 s o:=⟨_,rfl⟩
 rw[←hrr]
 have HR:Hid (r=if ok=true then(if(!(seeU s.asked o.seq)&&o.car)=true then s else finish {s with asked:=s.asked++[ldA o.seq pl (mN:Int)]} o (onC o.pc o.i.rd (ldv o.i.op (bt vv))))else finish s o (trapC o.pc 3)):=by
  show _=_
  rw[hrr]
  unfold lod1
  simp only[]
  rw[epl,hmN,hok]
  by_cases hf:fits s.n pl mN=true
  ·rw[if_pos hf,if_pos hf,hvv,if_pos hf,ldv_see hmN hl0 A.rg.f hf]
  ·rw[if_neg hf,if_neg hf]
 have HF1:Hid (∀W L',St N W b {s with asked:=s.asked++[ldA o.seq pl (mN:Int)]} L'→∀v,U32 v→Calls Tryz.prog 87 #[.pointer (some ⟨b,0,none⟩),.int .i64 (l1.length:Int),cvC (onC o.pc o.i.rd v)] W fun e w'=>e=.returned (.tuple #[])∧∃L'',St N w' b (finish {s with asked:=s.asked++[ldA o.seq pl (mN:Int)]} o (onC o.pc o.i.rd v)) L''∧To b W L' w' L''):=fun W L' SW v hv=>
  cfinish_any SW (al_ask A hu pl (mN:Int) hplU (by omega)) (by omega) hu (by omega) (cm_load hl0) (cmR_on hdr.pc hdr.rd hv)
 have HF2:Hid (∀W L',St N W b s L'→Calls Tryz.prog 87 #[.pointer (some ⟨b,0,none⟩),.int .i64 (l1.length:Int),cvC (trapC o.pc 3)] W fun e w'=>e=.returned (.tuple #[])∧∃L'',St N w' b (finish s o (trapC o.pc 3)) L''∧To b W L' w' L''):=fun W L' SW=>
  cfinish_any SW A (by omega) hu (by omega) (cm_trap hl0) (cmR_trap hdr.pc (by omega))
 have HLV:Hid (ok=true→U32 (ldv o.i.op (bt vv))):=fun h=>by
  have hf:fits s.n pl mN=true:=by rw[←hok];exact h
  rw[hvv,if_pos hf,ldv_see hmN hl0 A.rg.f hf]
  have hp:=fits_pos hf
  exact ldv_rg hl0 fun k hk=>sb_rng (A.rg.f _ (by omega))
 have HSU:Hid (ok=true→su=seeU s.asked o.seq):=fun h=>by rw[hsu,←hok,h];rfl
 have CE:Hid (∀W,Calls Tryz.prog 89 #[.int .i64 o.i.op,.int .u32 vv] W fun e w'=>e=.returned (.int .u32 (ldv o.i.op (bt vv)))∧Below W.heap.size W w'):=fun W=>cextended_any o.i.op vv hvU hl0 W
 have CLd:Hid (∀W v,Calls Tryz.prog 88 #[ivI o.i,.int .u32 o.pc,.int .u32 v,.bool ok] W fun e w'=>e=.returned (cvC (if ok then onC o.pc o.i.rd v else trapC o.pc 3))∧Below W.heap.size W w'):=fun W v=>cLoaded o.i o.pc v hdr.pc W ok
 have hlA:s.asked.length≤100000000:=by have:=A.rg.lenA;omega
 have hjo:s.under[l1.length]?=some o:=by rw[hu];simp
 have hjl:l1.length<s.under.length:=(List.getElem?_eq_some_iff.1 hjo).1
 have hln:=A.len
 obtain⟨j,hj⟩:∃j,j=l1.length:=⟨_,rfl⟩
 rw[←hj]at hjo hjl HF1 HF2⊢
 have HX:Hid (o.a=(x:Int)):=hx
 obtain⟨D,hD⟩:∃D,D=(dgl o).toArray:=⟨_,rfl⟩
 have HD:Hid (D=(dgl o).toArray):=hD
 have HI:Hid ((Tryz.prog.info? 132).map (·.size)=some D.size∧28=D.size∧D.all (·.oneCell')=true):=by rw[hD];exact⟨dgl_info o,rfl,dgl_ones o⟩
 have CL:=fun W=>loaded_b o.i.op W
 rw[hmN]at CL
 have HWX:Hid (wx=s.wd (x:Int)):=hwx
 have wx0:0≤wx∧wx≤4294967295:=by rw[hwx,←hx];exact hwa
 clear hrr hu h1 A ho hj hD hdr ra0 hwa hx hmN hl0 epl hok hsu hvv hvU hplU hwx
 go_enter Tryz.func59,Tryz.ntmps59
 obtain⟨ug,uo,uc,euv,huc,_,hug,hucs,_⟩:=S.its.iu.at (by omega)
 have k334:w.cell? ⟨b,334,none⟩=some (.slice (some ⟨ug,uo,none⟩) s.under.length uc):=(cell_at S.row (by omega)).trans (congrArg some euv)
 have HRg:Hid (w.rangeAt ug (uo+j*28) (dgl o)):=by
  intro i v hv
  rw[Nat.add_assoc]
  exact hucs _ _ (flat_at dgl_len hjo hv)
 obtain⟨un,hun⟩:∃un,un=s.under.length:=⟨_,rfl⟩
 rw[←hun]at k334 huc hjl hln
 have j0:0≤(j:Int):=by omega
 have j1:(j:Int)<(un:Int):=by omega
 clear euv hucs hug hun hjo
 go_upto_region 1 with(first|(refine wpList_load_mid rfl 132 _ rfl ug (uo+j*28) rfl (dgl o) _ HRg.out Tryz.underlying132 rfl size_doing ?_;rw[←HD.out])|(refine wpList_store_row rfl 132 _ _ rfl _ _ rfl rfl 132 _ (heap_alloc_new _ _) HI.out.1 HI.out.2.1 HI.out.2.2 ?_;rw[World.setRow_alloc_new]))
 refine Wi.one_box (Φ:=fun W=>Code.wp _ _ _ _ W) ?_
 intro V1 h1 hb
 have B1:Hid (Bx V1 w.heap.size o):=by show _=_;rw[h1,HD.out]
 have S1:Hid (St N V1 b s L):=S.below hb
 have T1:Hid (To b w L V1 L):=to_below L hb
 have HB1:Hid (Below w.heap.size w V1):=hb
 have hzo:Hid (¬own b L w.heap.size):=fun h=>by have:=own_lt S h;omega
 clear h1 hb S k334 HRg HI HD
 obtain⟨z,hz⟩:∃z,z=w.heap.size:=⟨_,rfl⟩
 rw[←hz]at B1 hzo⊢
 clear hz
 have c2:V1.cell? ⟨z,2,none⟩=some (.int .i64 o.i.op):=bx_row B1.out 2 rfl
 have c6:V1.cell? ⟨z,6,none⟩=some (.int .i32 o.i.im):=bx_row B1.out 6 rfl
 have c8:V1.cell? ⟨z,8,none⟩=some (.int .i64 (x:Int)):=bx_row B1.out 8 (by rw[←HX.out];rfl)
 have cx:V1.cell? ⟨b,141+x,none⟩=some (.int .u32 wx):=by rw[HWX.out];exact S1.out.wrd x hx1
 have x0:0≤(x:Int):=by omega
 have x1:(x:Int)<96:=by omega
 have m0:0≤(mN:Int):=by omega
 have m4:(mN:Int)≤4:=by omega
 have hwm:IntKind.i64.wrap (mN:Int)=(mN:Int):=by rcases hmc with h|h|h<;>rw[h]<;>rfl
 refine startZ (S:=fun w'=>w'.cell? ⟨z,2,none⟩=some (.int .i64 o.i.op)∧w'.cell? ⟨z,6,none⟩=some (.int .i32 o.i.im)∧w'.cell? ⟨z,8,none⟩=some (.int .i64 (x:Int))∧w'.cell? ⟨b,141+x,none⟩=some (.int .u32 wx)) [] (by kernel_rfl) (⟨c2,c6,c8,cx⟩) (fun hH=>?_)
 refine tU 0 (.pointer (some ⟨b,0,none⟩)) rfl hH ?_;try go_simp
 refine tU 1 (.pointer (some ⟨z,8,none⟩)) rfl hH ?_;try go_simp
 refine tS 2 (.int .i64 (x:Int)) rfl (Or.inl ⟨by rfl,by intro wz hSw;have hc:=hSw.2.2.1;go_simp⟩) hH ?_;try go_simp
 refine tU 3 (.pointer (some ⟨b,0,none⟩)) rfl hH ?_;try go_simp
 refine tU 4 (.pointer (some ⟨b,141,none⟩)) rfl hH ?_;try go_simp
 refine tU 5 (.pointer (some ⟨b,141+x,none⟩)) rfl hH ?_;try go_simp
 refine tS 6 (.int .u32 wx) rfl (Or.inl ⟨by rfl,by intro wz hSw;have hc:=hSw.2.2.2;go_simp⟩) hH ?_;try go_simp
 refine tU 7 (.pointer (some ⟨z,2,none⟩)) rfl hH ?_;try go_simp
 refine tU 8 (.pointer (some ⟨z,6,none⟩)) rfl hH ?_;try go_simp
 refine tS 9 (.int .i32 o.i.im) rfl (Or.inl ⟨by rfl,by intro wz hSw;have hc:=hSw.2.1;go_simp⟩) hH ?_;try go_simp
 refine tU 10 (.int .u32 iw) rfl hH ?_;try go_simp
 refine tU 11 (.int .u32 pl) rfl hH ?_;try go_simp
 refine tU 12 (.pointer (some ⟨z,2,none⟩)) rfl hH ?_;try go_simp
 refine tU 13 (.pointer (some ⟨z,2,none⟩)) rfl hH ?_;try go_simp
 refine tS 14 (.int .i64 o.i.op) rfl (Or.inl ⟨by rfl,by intro wz hSw;have hc:=hSw.1;go_simp⟩) hH ?_;try go_simp
 refine zC 15 rfl (fun K hK=>?_)
 go_simp
 refine(CL _).mono ?_
 rintro e V2 ⟨rfl,hk2⟩
 have HK2:Hid (Below V1.heap.size V1 V2):=below_first hk2 (Nat.le_refl _)
 go_wp2_with fail
 refine hK.out _ _ (⟨keepC hk2 (hH.1),keepC hk2 (hH.2.1),keepC hk2 (hH.2.2.1),keepC hk2 (hH.2.2.2)⟩) (fun hN=>?_)
 clear hK K hH
 have hH:=hN
 clear hN
 try go_simp
 refine tU 16 (.int .i64 (mN:Int)) rfl hH ?_;try go_simp
 refine tU 17 (.int .u32 pl) rfl hH ?_;try go_simp
 refine tU 18 (.int .i64 (mN:Int)) rfl hH ?_;try go_simp
 refine doneZ (by kernel_rfl) ?_ _
 have S2:Hid (St N V2 b s L):=S1.out.below HK2.out
 have B2:Hid (Bx V2 z o):=B1.out.below HK2.out
 have T2:Hid (To b w L V2 L):=T1.out.trans (to_below L HK2.out)
 have HB2:Hid (Below w.heap.size w V2):=HB1.out.trans (HK2.out.mono HB1.out.size)
 clear hH c2 c6 c8 cx S1 B1 T1 HB1 HK2 CL hiw hpl x0 x1 wx0 him
 obtain⟨aa,ca,ea⟩:=S2.out.its.ia.slice
 obtain⟨pm,cm,em,hm'⟩:=S2.out.its.im
 have k39:V2.cell? ⟨b,39,none⟩=some (.slice pm s.n cm):=(cell_at S2.out.row (by omega)).trans (congrArg some em)
 have k335:V2.cell? ⟨b,335,none⟩=some (.slice aa s.asked.length ca):=(cell_at S2.out.row (by omega)).trans (congrArg some ea)
 rw[em,ea]at CSe
 clear hm' em ea
 have c0:V2.cell? ⟨z,0,none⟩=some (.int .i64 o.seq):=bx_row B2.out 0 rfl
 go_upto_region 2 with fail
 refine startZ (S:=fun w'=>w'.cell? ⟨b,335,none⟩=some (.slice aa s.asked.length ca)∧w'.cell? ⟨b,39,none⟩=some (.slice pm s.n cm)∧w'.cell? ⟨z,0,none⟩=some (.int .i64 o.seq)) [] (by kernel_rfl) (⟨k335,k39,c0⟩) (fun hH=>?_)
 refine tU 0 (.pointer (some ⟨b,0,none⟩)) rfl hH ?_;try go_simp
 refine tU 1 (.pointer (some ⟨b,0,none⟩)) rfl hH ?_;try go_simp
 refine tU 2 (.pointer (some ⟨b,335,none⟩)) rfl hH ?_;try go_simp
 refine tS 3 (.slice aa s.asked.length ca) rfl (Or.inl ⟨by rfl,by intro wz hSw;have hc:=hSw.1;go_simp⟩) hH ?_;try go_simp
 refine tU 4 (.pointer (some ⟨b,0,none⟩)) rfl hH ?_;try go_simp
 refine tU 5 (.pointer (some ⟨b,0,none⟩)) rfl hH ?_;try go_simp
 refine tU 6 (.pointer (some ⟨b,3,none⟩)) rfl hH ?_;try go_simp
 refine tU 7 (.pointer (some ⟨b,39,none⟩)) rfl hH ?_;try go_simp
 refine tS 8 (.slice pm s.n cm) rfl (Or.inl ⟨by rfl,by intro wz hSw;have hc:=hSw.2.1;go_simp⟩) hH ?_;try go_simp
 refine tU 9 (.pointer (some ⟨z,0,none⟩)) rfl hH ?_;try go_simp
 refine tS 10 (.int .i64 o.seq) rfl (Or.inl ⟨by rfl,by intro wz hSw;have hc:=hSw.2.2;go_simp⟩) hH ?_;try go_simp
 refine tU 11 (.int .u32 pl) rfl hH ?_;try go_simp
 refine tU 12 (.int .i64 (mN:Int)) rfl hH ?_;try go_simp
 refine zC 13 rfl (fun K hK=>?_)
 go_simp
 refine(CSe.out _ HB2.out.drew).mono ?_
 rintro e V3 ⟨rfl,hk3⟩
 have HK3:Hid (Below V2.heap.size V2 V3):=below_first hk3 (Nat.le_refl _)
 go_wp2_with fail
 refine hK.out _ _ (⟨keepC hk3 (hH.1),keepC hk3 (hH.2.1),keepC hk3 (hH.2.2)⟩) (fun hN=>?_)
 clear hK K hH
 have hH:=hN
 clear hN
 try go_simp
 refine tU 14 (.tuple #[.int .u32 vv,.bool ok,.bool su]) rfl hH ?_;try go_simp
 refine tU 15 (.int .u32 vv) rfl hH ?_;try go_simp
 refine tU 16 (.bool ok) rfl hH ?_;try go_simp
 refine tU 17 (.bool su) rfl hH ?_;try go_simp
 refine tU 18 (.int .u32 vv) rfl hH ?_;try go_simp
 refine tU 19 (.bool ok) rfl hH ?_;try go_simp
 refine tU 20 (.bool su) rfl hH ?_;try go_simp
 refine doneZ (by kernel_rfl) ?_ _
 have S3:Hid (St N V3 b s L):=S2.out.below HK3.out
 have B3:Hid (Bx V3 z o):=B2.out.below HK3.out
 have T3:Hid (To b w L V3 L):=T2.out.trans (to_below L HK3.out)
 clear hH c0 k39 k335 S2 B2 T2 HB2 HK3 CSe
 have c16:V3.cell? ⟨z,16,none⟩=some (.bool o.car):=bx_row B3.out 16 rfl
 cases ok with
 |false=>
  have hr:=HR.out
  simp only[Bool.false_eq_true,if_false]at hr
  have HR2:Hid (r=finish s o (trapC o.pc 3)):=hr
  clear hr HR HF1 HSU HLV
  obtain⟨cr,hcr⟩:∃cr,cr=trapC o.pc 3:=⟨_,rfl⟩
  have CLd2:Hid (∀W v,Calls Tryz.prog 88 #[ivI o.i,.int .u32 o.pc,.int .u32 v,.bool false] W fun e w'=>e=.returned (cvC cr)∧Below W.heap.size W w'):=by rw[hcr];exact CLd.out
  have HFN:Hid (∀W L',St N W b s L'→Calls Tryz.prog 87 #[.pointer (some ⟨b,0,none⟩),.int .i64 (j:Int),cvC cr] W fun e w'=>e=.returned (.tuple #[])∧∃L'',St N w' b r L''∧To b W L' w' L''):=by rw[hcr,HR2.out];exact HF2.out
  clear hcr HR2 CLd HF2
  go_upto_region 6 with fail
  refine startZ (S:=fun w'=>w'.rangeAt z 2 ((ivL o.i).toList)∧w'.cell? ⟨z,1,none⟩=some (.int .u32 o.pc)∧w'.cell? ⟨z,2,none⟩=some (.int .i64 o.i.op)) [12] (by kernel_rfl) (⟨ivl_rng B3.out,bx_row B3.out 1 rfl,bx_row B3.out 2 rfl⟩) (fun hH=>?_)
  refine tU 0 (.pointer (some ⟨b,0,none⟩)) rfl hH ?_;try go_simp
  refine tU 1 (.int .i64 (j:Int)) rfl hH ?_;try go_simp
  refine tU 2 (.pointer (some ⟨z,2,none⟩)) rfl hH ?_;try go_simp
  refine tS 3 (.agg ((ivL o.i).toList).toArray) rfl (yieldsIf_load_mid (by rfl) 78 _ rfl _ _ rfl ((ivL o.i).toList) _ (fun wz hSw=>hSw.1) Tryz.underlying78 rfl (ivl_size _)) hH ?_;try go_simp
  refine tU 4 (.pointer (some ⟨z,1,none⟩)) rfl hH ?_;try go_simp
  refine tS 5 (.int .u32 o.pc) rfl (Or.inl ⟨by rfl,by intro wz hSw;have hc:=hSw.2.1;go_simp⟩) hH ?_;try go_simp
  refine tU 6 (.pointer (some ⟨z,2,none⟩)) rfl hH ?_;try go_simp
  refine tU 7 (.pointer (some ⟨z,2,none⟩)) rfl hH ?_;try go_simp
  refine tU 9 (.int .u32 vv) rfl hH ?_;try go_simp
  refine tU 11 (.bool false) rfl hH ?_;try go_simp
  refine zC 8 rfl (fun K hK=>?_)
  have hc:=hH.2.2
  go_simp
  clear hc
  refine hK.out _ _ (hH) (fun hN=>?_)
  clear hK K hH
  have hH:=hN
  clear hN
  try go_simp
  refine zC 10 rfl (fun K hK=>?_)
  go_simp
  refine(CE.out _).mono ?_
  rintro e V6 ⟨rfl,hk6⟩
  have HK6:Hid (Below V3.heap.size V3 V6):=below_first hk6 (Nat.le_refl _)
  go_wp2_with fail
  refine hK.out _ _ (⟨keepR hk6 (hH.1),keepC hk6 (hH.2.1),keepC hk6 (hH.2.2)⟩) (fun hN=>?_)
  clear hK K hH
  have hH:=hN
  clear hN
  try go_simp
  refine zL 12 rfl (fun K hK=>?_)
  go_simp
  refine(CLd2.out _ _).mono ?_
  rintro e V7 ⟨rfl,hk7⟩
  have HK7:Hid (Below V3.heap.size V3 V7):=HK6.out.trans (hk7.mono HK6.out.size)
  go_wp2_with fail
  refine hK.out _ _ ?_
  clear hK K
  try go_simp
  refine zL 13 rfl (fun K hK=>?_)
  go_simp
  refine(HFN.out _ _ (S3.out.below HK7.out)).mono ?_
  rintro e V8 ⟨rfl,L8,u1,u2⟩
  have S8:Hid (St N V8 b r L8):=u1
  have T8:Hid (To b w L V8 L8):=(T3.out.trans (to_below _ HK7.out)).trans u2
  clear u1 u2
  go_wp2_with fail
  refine hK.out _ _ ?_
  clear hK K
  try go_simp
  refine doneZ (by kernel_rfl) ?_ _
  clear hH
  go_wp2_with fail
  refine bodyPost_end (results_none rfl _ _ _) rfl ⟨rfl,L8,S8.out,T8.out⟩
 |true=>
  have hsu:=HSU.out rfl
  have hlv:=HLV.out rfl
  cases hcs:(!(seeU s.asked o.seq)&&o.car)with
  |true=>
   have hr:=HR.out
   simp only[if_true]at hr
   rw[hcs]at hr
   simp only[if_true]at hr
   have HR2:Hid (r=s):=hr
   clear hr
   rw[Bool.and_eq_true]at hcs
   have h1:seeU s.asked o.seq=false:=by simpa using hcs.1
   have h2:=hcs.2
   rw[h1]at hsu
   subst hsu
   rw[h2]at c16
   clear HR HF1 HF2 CLd CE h1 h2 hcs HLV HSU
   go_wp2_with fail
   refine bodyPost_ret (results_none rfl _ _ _) rfl ⟨rfl,L,by rw[HR2.out];exact S3.out,T3.out⟩
  |false=>
   have hr:=HR.out
   simp only[if_true]at hr
   rw[hcs]at hr
   simp only[Bool.false_eq_true,if_false]at hr
   obtain⟨s',hs'⟩:∃s':Cr,s'={s with asked:=s.asked++[ldA o.seq pl (mN:Int)]}:=⟨_,rfl⟩
   obtain⟨cr,hcr⟩:∃cr,cr=onC o.pc o.i.rd (ldv o.i.op (bt vv)):=⟨_,rfl⟩
   have CLd2:Hid (∀W,Calls Tryz.prog 88 #[ivI o.i,.int .u32 o.pc,.int .u32 (ldv o.i.op (bt vv)),.bool true] W fun e w'=>e=.returned (cvC cr)∧Below W.heap.size W w'):=by rw[hcr];exact fun W=>CLd.out W _
   have HFN:Hid (∀W L',St N W b s' L'→Calls Tryz.prog 87 #[.pointer (some ⟨b,0,none⟩),.int .i64 (j:Int),cvC cr] W fun e w'=>e=.returned (.tuple #[])∧∃L'',St N w' b r L''∧To b W L' w' L''):=fun W L' SW=>by
    rw[hcr,hr]
    rw[hs']at SW
    exact HF1.out W L' SW _ hlv
   have hgo:su=true∨o.car=false:=by
    rw[hsu]
    cases h:seeU s.asked o.seq with
    |true=>exact .inl rfl
    |false=>rw[h]at hcs;exact .inr (by simpa using hcs)
   have HS':Hid (s'={s with asked:=s.asked++[ldA o.seq pl (mN:Int)]}):=hs'
   clear hr HR hcr CLd HF1 HF2 HLV HSU hsu hlv hcs hs'
   have hnq:L.a.ownBlock≠some z:=fun h=>hzo.out (.inr (.inr (.inr h)))
   have hgo2:(su=true)∨(su=false∧o.car=false):=by
    cases su with
    |true=>exact .inl rfl
    |false=>exact .inr ⟨rfl,by simpa using hgo⟩
   clear hgo
   rcases hgo2 with hsu|⟨hsu,hca⟩
   ·subst hsu
    go_upto_region 5 with fail
    have SV:Hid (St N V3 b s L):=S3.out
    obtain⟨a9,c9,ea⟩:=SV.out.its.ia.slice
    have kA:V3.cell? ⟨b,335,none⟩=some (.slice a9 (s.asked.length) c9):=(cell_at SV.out.row (by omega)).trans (congrArg some ea)
    have HU:Hid (Us V3 135 7 (.slice a9 (s.asked.length) c9) (s.asked.length) (flat cel s.asked)):=by have:=SV.out.its.ia;rw[ea]at this;exact this
    have hnb:(Value.slice a9 (s.asked.length) c9).ownBlock≠some b:=fun h=>(SV.out.apart.2.2 b (by rw[ea];exact h)).2.2 rfl
    have hlt0:∀g,(Value.slice a9 (s.asked.length) c9).ownBlock=some g→g<V3.heap.size:=fun g h=>SV.out.its.lt (.inr (.inr (by rw[ea];exact h)))
    refine startZ (S:=fun w'=>w'.cell? ⟨b,335,none⟩=some (.slice a9 (s.asked.length) c9)∧w'.cell? ⟨z,0,none⟩=some (.int .i64 o.seq)) [14] (by kernel_rfl) (⟨kA,bx_row B3.out 0 rfl⟩) (fun hH=>?_)
    refine tU 0 (.pointer (some ⟨b,0,none⟩)) rfl hH ?_;try go_simp
    refine tU 1 (.pointer (some ⟨b,0,none⟩)) rfl hH ?_;try go_simp
    refine tU 2 (.pointer (some ⟨b,0,none⟩)) rfl hH ?_;try go_simp
    refine tU 3 (.pointer (some ⟨b,335,none⟩)) rfl hH ?_;try go_simp
    refine tS 4 (.slice a9 (s.asked.length) c9) rfl (Or.inl ⟨by rfl,by intro wz hSw;have hc:=hSw.1;go_simp⟩) hH ?_;try go_simp
    refine tU 5 (.pointer (some ⟨z,0,none⟩)) rfl hH ?_;try go_simp
    refine tS 6 (.int .i64 o.seq) rfl (Or.inl ⟨by rfl,by intro wz hSw;have hc:=hSw.2;go_simp⟩) hH ?_;try go_simp
    refine tU 7 (.int .u32 pl) rfl hH ?_;try go_simp
    refine tU 8 (.int .i64 (mN:Int)) rfl hH ?_;try go_simp
    refine tU 9 (.agg #[.int .i64 o.seq,.bool false,.bool true,.int .u32 pl,.int .i64 (mN:Int),.int .u32 0,.bool true]) rfl hH ?_;try go_simp
    refine zC 10 rfl (fun K hK=>?_)
    go_simp
    refine hK.out _ _ (⟨keepA _ (hH.1),keepA _ (hH.2)⟩) (fun hN=>?_)
    clear hK K hH
    have hH:=hN
    clear hN
    try go_simp
    refine zC 11 rfl (fun K hK=>?_)
    rw[if_pos (by rfl)]
    refine wp_append_us _ _ 64 rfl 135 iA _ 7 32 Tryz.underlying64 hi hz0 hz1 hz2 rfl (by decide) _ (s.asked.length) _ rfl (HU.out.below ((Below.refl _ _).drew.alloc (Nat.le_refl _) _)) V3.heap.size (cel (ldA o.seq pl (mN:Int))) rfl rfl (fun j u hj=>new_cells (w:=V3.drew) j u hj) (cel_one _) (by omega) (by omega) ?_
    intro v1 w1 hU1 hG1 hF1
    obtain⟨p1,c1,rfl⟩:=hU1.slice
    have fA:w1.frozen? ⟨b,335,none⟩=false:=frozen_of_row _ _ _ _ _ ((hG1.block b (by have:=SV.out.lt;simp;omega) (fun h=>hnb h.symm)).trans ((Below.heap_alloc _ _ _ SV.out.lt).trans SV.out.row))
    have HU1:Hid (Us w1 135 7 (.slice p1 ((s.asked.length)+1) c1) ((s.asked.length)+1) (flat cel s.asked++cel (ldA o.seq pl (mN:Int)))):=hU1
    have HG1:Hid (V3.grownBy w1 L.a.ownBlock):=by rw[ea];exact grown_drew (grown_alloc hG1 (fun g hg=>hlt0 g hg))
    have HF1:Hid (∀g,(Value.slice p1 ((s.asked.length)+1) c1).ownBlock=some g→L.a.ownBlock=some g∨V3.heap.size≤g):=fun g hg=>(hF1 g hg).imp (fun h=>by rw[ea];exact h) (fun h=>Nat.le_trans (by simp) h)
    refine hK.out _ _ (⟨keepG hG1 (hH.1) (hnb),keepG hG1 (hH.2) (by rw[←ea];exact hnq)⟩) (fun hN=>?_)
    clear hK K hH
    have hH:=hN
    clear hN
    try go_simp
    have cA:=hH.1
    clear hU1 hG1 hF1 HU hnb hlt0 kA
    refine tU 12 (.pointer (some ⟨b,0,none⟩)) rfl hH ?_;try go_simp
    refine tU 13 (.pointer (some ⟨b,335,none⟩)) rfl hH ?_;try go_simp
    refine zL 14 rfl (fun K hK=>?_)
    go_simp
    refine hK.out _ _ ?_
    clear hK K
    try go_simp
    refine doneZ (by kernel_rfl) ?_ _
    obtain⟨S1,T1⟩:=St.appA SV.out (ldA o.seq pl (mN:Int)) HU1.out HG1.out HF1.out
    clear HU1 HG1 HF1 hH cA fA
    generalize w1.setCell ⟨b,335,none⟩ (.slice p1 ((s.asked.length)+1) c1)=W1 at*
    generalize Value.slice p1 ((s.asked.length)+1) c1=v1 at*
    rw[←HS'.out]at S1
    have S5:Hid (St N W1 b s' {L with a:=v1}):=S1
    have T5:Hid (To b w L W1 {L with a:=v1}):=T3.out.trans T1
    have B5:Hid (Bx W1 z o):=B3.out.to T1 hzo.out
    clear S1 T1 SV S3 B3 T3 c16
    generalize ({L with a:=v1}:Sls)=L5 at*
    go_upto_region 6 with fail
    refine startZ (S:=fun w'=>w'.rangeAt z 2 ((ivL o.i).toList)∧w'.cell? ⟨z,1,none⟩=some (.int .u32 o.pc)∧w'.cell? ⟨z,2,none⟩=some (.int .i64 o.i.op)) [12] (by kernel_rfl) (⟨ivl_rng B5.out,bx_row B5.out 1 rfl,bx_row B5.out 2 rfl⟩) (fun hH=>?_)
    refine tU 0 (.pointer (some ⟨b,0,none⟩)) rfl hH ?_;try go_simp
    refine tU 1 (.int .i64 (j:Int)) rfl hH ?_;try go_simp
    refine tU 2 (.pointer (some ⟨z,2,none⟩)) rfl hH ?_;try go_simp
    refine tS 3 (.agg ((ivL o.i).toList).toArray) rfl (yieldsIf_load_mid (by rfl) 78 _ rfl _ _ rfl ((ivL o.i).toList) _ (fun wz hSw=>hSw.1) Tryz.underlying78 rfl (ivl_size _)) hH ?_;try go_simp
    refine tU 4 (.pointer (some ⟨z,1,none⟩)) rfl hH ?_;try go_simp
    refine tS 5 (.int .u32 o.pc) rfl (Or.inl ⟨by rfl,by intro wz hSw;have hc:=hSw.2.1;go_simp⟩) hH ?_;try go_simp
    refine tU 6 (.pointer (some ⟨z,2,none⟩)) rfl hH ?_;try go_simp
    refine tU 7 (.pointer (some ⟨z,2,none⟩)) rfl hH ?_;try go_simp
    refine tU 9 (.int .u32 vv) rfl hH ?_;try go_simp
    refine tU 11 (.bool true) rfl hH ?_;try go_simp
    refine zC 8 rfl (fun K hK=>?_)
    have hc:=hH.2.2
    go_simp
    clear hc
    refine hK.out _ _ (hH) (fun hN=>?_)
    clear hK K hH
    have hH:=hN
    clear hN
    try go_simp
    refine zC 10 rfl (fun K hK=>?_)
    go_simp
    refine(CE.out _).mono ?_
    rintro e V6 ⟨rfl,hk6⟩
    have HK6:Hid (Below W1.heap.size W1 V6):=below_first hk6 (Nat.le_refl _)
    go_wp2_with fail
    refine hK.out _ _ (⟨keepR hk6 (hH.1),keepC hk6 (hH.2.1),keepC hk6 (hH.2.2)⟩) (fun hN=>?_)
    clear hK K hH
    have hH:=hN
    clear hN
    try go_simp
    refine zL 12 rfl (fun K hK=>?_)
    go_simp
    refine(CLd2.out _).mono ?_
    rintro e V7 ⟨rfl,hk7⟩
    have HK7:Hid (Below W1.heap.size W1 V7):=HK6.out.trans (hk7.mono HK6.out.size)
    go_wp2_with fail
    refine hK.out _ _ ?_
    clear hK K
    try go_simp
    refine zL 13 rfl (fun K hK=>?_)
    go_simp
    refine(HFN.out _ _ (S5.out.below HK7.out)).mono ?_
    rintro e V8 ⟨rfl,L8,u1,u2⟩
    have S8:Hid (St N V8 b r L8):=u1
    have T8:Hid (To b w L V8 L8):=(T5.out.trans (to_below _ HK7.out)).trans u2
    clear u1 u2
    go_wp2_with fail
    refine hK.out _ _ ?_
    clear hK K
    try go_simp
    refine doneZ (by kernel_rfl) ?_ _
    clear hH
    go_wp2_with fail
    refine bodyPost_end (results_none rfl _ _ _) rfl ⟨rfl,L8,S8.out,T8.out⟩
   ·subst hsu
    rw[hca]at c16
    go_upto_region 5 with fail
    have SV:Hid (St N V3 b s L):=S3.out
    obtain⟨a9,c9,ea⟩:=SV.out.its.ia.slice
    have kA:V3.cell? ⟨b,335,none⟩=some (.slice a9 (s.asked.length) c9):=(cell_at SV.out.row (by omega)).trans (congrArg some ea)
    have HU:Hid (Us V3 135 7 (.slice a9 (s.asked.length) c9) (s.asked.length) (flat cel s.asked)):=by have:=SV.out.its.ia;rw[ea]at this;exact this
    have hnb:(Value.slice a9 (s.asked.length) c9).ownBlock≠some b:=fun h=>(SV.out.apart.2.2 b (by rw[ea];exact h)).2.2 rfl
    have hlt0:∀g,(Value.slice a9 (s.asked.length) c9).ownBlock=some g→g<V3.heap.size:=fun g h=>SV.out.its.lt (.inr (.inr (by rw[ea];exact h)))
    refine startZ (S:=fun w'=>w'.cell? ⟨b,335,none⟩=some (.slice a9 (s.asked.length) c9)∧w'.cell? ⟨z,0,none⟩=some (.int .i64 o.seq)) [14] (by kernel_rfl) (⟨kA,bx_row B3.out 0 rfl⟩) (fun hH=>?_)
    refine tU 0 (.pointer (some ⟨b,0,none⟩)) rfl hH ?_;try go_simp
    refine tU 1 (.pointer (some ⟨b,0,none⟩)) rfl hH ?_;try go_simp
    refine tU 2 (.pointer (some ⟨b,0,none⟩)) rfl hH ?_;try go_simp
    refine tU 3 (.pointer (some ⟨b,335,none⟩)) rfl hH ?_;try go_simp
    refine tS 4 (.slice a9 (s.asked.length) c9) rfl (Or.inl ⟨by rfl,by intro wz hSw;have hc:=hSw.1;go_simp⟩) hH ?_;try go_simp
    refine tU 5 (.pointer (some ⟨z,0,none⟩)) rfl hH ?_;try go_simp
    refine tS 6 (.int .i64 o.seq) rfl (Or.inl ⟨by rfl,by intro wz hSw;have hc:=hSw.2;go_simp⟩) hH ?_;try go_simp
    refine tU 7 (.int .u32 pl) rfl hH ?_;try go_simp
    refine tU 8 (.int .i64 (mN:Int)) rfl hH ?_;try go_simp
    refine tU 9 (.agg #[.int .i64 o.seq,.bool false,.bool true,.int .u32 pl,.int .i64 (mN:Int),.int .u32 0,.bool true]) rfl hH ?_;try go_simp
    refine zC 10 rfl (fun K hK=>?_)
    go_simp
    refine hK.out _ _ (⟨keepA _ (hH.1),keepA _ (hH.2)⟩) (fun hN=>?_)
    clear hK K hH
    have hH:=hN
    clear hN
    try go_simp
    refine zC 11 rfl (fun K hK=>?_)
    rw[if_pos (by rfl)]
    refine wp_append_us _ _ 64 rfl 135 iA _ 7 32 Tryz.underlying64 hi hz0 hz1 hz2 rfl (by decide) _ (s.asked.length) _ rfl (HU.out.below ((Below.refl _ _).drew.alloc (Nat.le_refl _) _)) V3.heap.size (cel (ldA o.seq pl (mN:Int))) rfl rfl (fun j u hj=>new_cells (w:=V3.drew) j u hj) (cel_one _) (by omega) (by omega) ?_
    intro v1 w1 hU1 hG1 hF1
    obtain⟨p1,c1,rfl⟩:=hU1.slice
    have fA:w1.frozen? ⟨b,335,none⟩=false:=frozen_of_row _ _ _ _ _ ((hG1.block b (by have:=SV.out.lt;simp;omega) (fun h=>hnb h.symm)).trans ((Below.heap_alloc _ _ _ SV.out.lt).trans SV.out.row))
    have HU1:Hid (Us w1 135 7 (.slice p1 ((s.asked.length)+1) c1) ((s.asked.length)+1) (flat cel s.asked++cel (ldA o.seq pl (mN:Int)))):=hU1
    have HG1:Hid (V3.grownBy w1 L.a.ownBlock):=by rw[ea];exact grown_drew (grown_alloc hG1 (fun g hg=>hlt0 g hg))
    have HF1:Hid (∀g,(Value.slice p1 ((s.asked.length)+1) c1).ownBlock=some g→L.a.ownBlock=some g∨V3.heap.size≤g):=fun g hg=>(hF1 g hg).imp (fun h=>by rw[ea];exact h) (fun h=>Nat.le_trans (by simp) h)
    refine hK.out _ _ (⟨keepG hG1 (hH.1) (hnb),keepG hG1 (hH.2) (by rw[←ea];exact hnq)⟩) (fun hN=>?_)
    clear hK K hH
    have hH:=hN
    clear hN
    try go_simp
    have cA:=hH.1
    clear hU1 hG1 hF1 HU hnb hlt0 kA
    refine tU 12 (.pointer (some ⟨b,0,none⟩)) rfl hH ?_;try go_simp
    refine tU 13 (.pointer (some ⟨b,335,none⟩)) rfl hH ?_;try go_simp
    refine zL 14 rfl (fun K hK=>?_)
    go_simp
    refine hK.out _ _ ?_
    clear hK K
    try go_simp
    refine doneZ (by kernel_rfl) ?_ _
    obtain⟨S1,T1⟩:=St.appA SV.out (ldA o.seq pl (mN:Int)) HU1.out HG1.out HF1.out
    clear HU1 HG1 HF1 hH cA fA
    generalize w1.setCell ⟨b,335,none⟩ (.slice p1 ((s.asked.length)+1) c1)=W1 at*
    generalize Value.slice p1 ((s.asked.length)+1) c1=v1 at*
    rw[←HS'.out]at S1
    have S5:Hid (St N W1 b s' {L with a:=v1}):=S1
    have T5:Hid (To b w L W1 {L with a:=v1}):=T3.out.trans T1
    have B5:Hid (Bx W1 z o):=B3.out.to T1 hzo.out
    clear S1 T1 SV S3 B3 T3 c16
    generalize ({L with a:=v1}:Sls)=L5 at*
    go_upto_region 6 with fail
    refine startZ (S:=fun w'=>w'.rangeAt z 2 ((ivL o.i).toList)∧w'.cell? ⟨z,1,none⟩=some (.int .u32 o.pc)∧w'.cell? ⟨z,2,none⟩=some (.int .i64 o.i.op)) [12] (by kernel_rfl) (⟨ivl_rng B5.out,bx_row B5.out 1 rfl,bx_row B5.out 2 rfl⟩) (fun hH=>?_)
    refine tU 0 (.pointer (some ⟨b,0,none⟩)) rfl hH ?_;try go_simp
    refine tU 1 (.int .i64 (j:Int)) rfl hH ?_;try go_simp
    refine tU 2 (.pointer (some ⟨z,2,none⟩)) rfl hH ?_;try go_simp
    refine tS 3 (.agg ((ivL o.i).toList).toArray) rfl (yieldsIf_load_mid (by rfl) 78 _ rfl _ _ rfl ((ivL o.i).toList) _ (fun wz hSw=>hSw.1) Tryz.underlying78 rfl (ivl_size _)) hH ?_;try go_simp
    refine tU 4 (.pointer (some ⟨z,1,none⟩)) rfl hH ?_;try go_simp
    refine tS 5 (.int .u32 o.pc) rfl (Or.inl ⟨by rfl,by intro wz hSw;have hc:=hSw.2.1;go_simp⟩) hH ?_;try go_simp
    refine tU 6 (.pointer (some ⟨z,2,none⟩)) rfl hH ?_;try go_simp
    refine tU 7 (.pointer (some ⟨z,2,none⟩)) rfl hH ?_;try go_simp
    refine tU 9 (.int .u32 vv) rfl hH ?_;try go_simp
    refine tU 11 (.bool true) rfl hH ?_;try go_simp
    refine zC 8 rfl (fun K hK=>?_)
    have hc:=hH.2.2
    go_simp
    clear hc
    refine hK.out _ _ (hH) (fun hN=>?_)
    clear hK K hH
    have hH:=hN
    clear hN
    try go_simp
    refine zC 10 rfl (fun K hK=>?_)
    go_simp
    refine(CE.out _).mono ?_
    rintro e V6 ⟨rfl,hk6⟩
    have HK6:Hid (Below W1.heap.size W1 V6):=below_first hk6 (Nat.le_refl _)
    go_wp2_with fail
    refine hK.out _ _ (⟨keepR hk6 (hH.1),keepC hk6 (hH.2.1),keepC hk6 (hH.2.2)⟩) (fun hN=>?_)
    clear hK K hH
    have hH:=hN
    clear hN
    try go_simp
    refine zL 12 rfl (fun K hK=>?_)
    go_simp
    refine(CLd2.out _).mono ?_
    rintro e V7 ⟨rfl,hk7⟩
    have HK7:Hid (Below W1.heap.size W1 V7):=HK6.out.trans (hk7.mono HK6.out.size)
    go_wp2_with fail
    refine hK.out _ _ ?_
    clear hK K
    try go_simp
    refine zL 13 rfl (fun K hK=>?_)
    go_simp
    refine(HFN.out _ _ (S5.out.below HK7.out)).mono ?_
    rintro e V8 ⟨rfl,L8,u1,u2⟩
    have S8:Hid (St N V8 b r L8):=u1
    have T8:Hid (To b w L V8 L8):=(T5.out.trans (to_below _ HK7.out)).trans u2
    clear u1 u2
    go_wp2_with fail
    refine hK.out _ _ ?_
    clear hK K
    try go_simp
    refine doneZ (by kernel_rfl) ?_ _
    clear hH
    go_wp2_with fail
    refine bodyPost_end (results_none rfl _ _ _) rfl ⟨rfl,L8,S8.out,T8.out⟩
end Go.Proofs.YtpiohehijkpghacGreatDoor.Co
