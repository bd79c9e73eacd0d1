/- A core that starts: the program. -/
import Derived.Test.YtpiohehijkpghacGreatDoorD25
open Bool renaming false_eq_true->Ah
open Go renaming results_none->Ae,yieldsIf_load_mid->Ai,bodyPost_end->Aj
open Go.RowKit.Below renaming refl->Am
open Go.Value renaming slice->Af
open Go.World.grownBy renaming refl->An
open Int renaming eq_ofNat_of_zero_le->Ad
open List renaming getElem?_eq_getElem->Aa,getElem?_eq_some_iff->Ab
open Nat renaming le_refl->WZ,add_assoc->Ag,le_trans->Ak
set_option maxHeartbeats 8000000
set_option maxRecDepth 20000
set_option linter.unusedSimpArgs false
set_option linter.unusedVariables false
open Go.Proofs.Tryz
namespace Go.Proofs.YtpiohehijkpghacGreatDoor.Co
open Go.RowKit
open Hy
open Wi Od Re.Hy
open Gu.Hy (Tb tcs)
theorem zop{op:Int}(h:ldn op≠0):11<=op/\op<=15:=by
 unfold ldn at h
 by_cases h1:op=11\/op=14
 ·omega
 ·rw[if_neg h1]at h
  by_cases h2:op=12\/op=15
  ·omega
  ·rw[if_neg h2]at h
   by_cases h3:op=13
   ·omega
   ·rw[if_neg h3]at h;exact absurd rfl h
theorem zmr{n:Nat}{i:In}{pc v:Int}(h:ldn i.op≠0):CmIs n i pc (onC pc i.rd v):=by
 have:=zop h
 refine⟨.inl rfl,fun _=>?_,fun h=>absurd rfl h⟩
 show i.rd=gvs i
 unfold gvs
 rw[if_neg (by omega)]
theorem zms{n:Nat}{i:In}{pc k:Int}(h:ldn i.op≠0):CmIs n i pc (qj pc k):=by
 have:=zop h
 exact zbS n i pc k (by omega) (vH (.inr (by omega)))
theorem zoq{K:Int}{s:Cr}{m:Nat->Int}(A:Al mach K s m){l1 l2:List Dg}{o:Dg}(hu:s.under=l1++o::l2)(x many:Int)(hx:U32 x)(hm:0<=many/\many<=4):Al mach (K+1) {s with asked:=s.asked++[ldA o.seq x many]} m:=
 ⟨zgS A.inv hu x many,zku A.rg hx hm,zdn A.uq rfl,A.low,A.tak,A.wid,A.bck⟩
theorem zh1{s:Cr}{op seq x:Int}{mN:Nat}(hm:ldn op=(mN:Int))(h0:ldn op≠0)(hf:∀i,i<s.n->0<=s.f i/\s.f i<=255)(h:fits s.n x mN=true):ldv op (bt (seeV s.asked seq x mN s.f))=ldv op (sb s.asked seq s.asked.length x.toNat s.f):=by
 have hp:=jw h
 have hl:=yk op
 refine zbR h0 fun k hk=>?_
 unfold seeV
 rw[Int.toNat_natCast]
 exact bt_le (by omega) (fun i hi=>zbG (hf _ (by omega))) k (by omega)
theorem zjR(op:Int)(W:World):Calls prog 85 #[.int .i64 op] W fun e w'=>e=.returned (.int .u32 (ldn op))/\Below W.heap.size W w':=by
 refine(jd op W).mono ?_
 rintro e w' ⟨rfl,rfl⟩
 exact⟨rfl,Am _ _⟩
theorem zco{N:Nat}{w:World}{b:Nat}{s:Cr}{L:Sls}(S:St N w b s L){m:Nat->Int}{K:Int}(A:Al mach K s m)(hK:K<=7000000){l1 l2:List Dg}{o:Dg}(hu:s.under=l1++o::l2)(h1:o.st=1):
  Calls prog 59 #[.pointer (some ⟨b,0,none⟩),.int .i64 (l1.length:Int)] w fun e w'=>e=.returned (.tuple #[])/\∃L',St N w' b (lod1 s o) L'/\To b w L w' L':=by
 obtain⟨iA,hi,hz0,hz1,hz2⟩:=info_parts zlQ
 have ho:o∈s.under:=by rw[hu];simp
 have hdr:=A.rg.und o ho
 have hl0:=zkv A.inv ho h1
 obtain⟨ra0,_,_,_⟩:=kD zM A.inv ho A.rg.phys
 have hwa:=A.rg.wd o.a
 obtain⟨mN,hmN⟩:∃mN:Nat,ldn o.i.op=(mN:Int):=Ad (yk _).1
 have hmc:mN=1\/mN=2\/mN=4:=by rcases jZ o.i.op with h|h|h|h<;>omega
 obtain⟨x,hx⟩:∃x:Nat,o.a=(x:Int):=Ad ra0.1
 have hx1:x<96:=by have:=ra0.2;omega
 have him:-2147483648<=o.i.im/\o.i.im<=2147483647:=by
  rcases hdr.i with h|h
  ·rw[h];decide
  ·exact⟨h.i0,h.i1⟩
 obtain⟨wx,hwx⟩:∃wx,wx=s.wd (x:Int):=⟨_,rfl⟩
 obtain⟨iw,hiw⟩:∃iw,IntKind.u32.wrap o.i.im=iw:=⟨_,rfl⟩
 obtain⟨pl,hpl⟩:∃pl,IntKind.u32.wrap (wx+iw)=pl:=⟨_,rfl⟩
 have epl:place o.i (s.wd o.a)=pl:=by rw[<-hpl,<-hiw,hx,hwx,zfx,zfx];unfold place;omega
 have hplU:U32 pl:=by rw[<-epl];exact zhB _ _
 obtain⟨ok,hok⟩:∃ok,ok=fits s.n pl mN:=⟨_,rfl⟩
 obtain⟨su,hsu⟩:∃su,su=(fits s.n pl mN&&seeU s.asked o.seq):=⟨_,rfl⟩
 obtain⟨vv,hvv⟩:∃vv,vv=if fits s.n pl mN then seeV s.asked o.seq pl mN s.f else 0:=⟨_,rfl⟩
 have hvU:U32 vv:=by
  rw[hvv]
  split
  ·rename_i hf
   exact zht A.rg.f (by omega) hf
  ·exact u0
 have CSe:Hid (∀W,Below w.heap.size w W->Calls prog 86 #[L.a,L.m,.int .i64 o.seq,.int .u32 pl,.int .i64 (mN:Int)] W fun e w'=>e=.returned (.tuple #[.int .u32 vv,.bool ok,.bool su])/\Below W.heap.size W w'):=fun W hW=>by
  have:=cSee S A.rg.ask (by have:=A.rg.lenA;omega) o.seq pl hplU mN hmc W hW
  unfold seeA at this
  rw[<-hsu,<-hvv,<-hok]at this
  exact this
 obtain⟨r,hrr⟩:∃r,r=lod1 s o:=⟨_,rfl⟩
 rw[<-hrr]
 have HR:Hid (r=if ok=true then(if(!(seeU s.asked o.seq)&&o.car)=true then s else finish {s with asked:=s.asked++[ldA o.seq pl (mN:Int)]} o (onC o.pc o.i.rd (ldv o.i.op (bt vv))))else finish s o (qj o.pc 3)):=by
  show _=_
  rw[hrr]
  unfold lod1
  simp only[]
  rw[epl,hmN,hok]
  by_cases hf:fits s.n pl mN=true
  ·rw[if_pos hf,if_pos hf,hvv,if_pos hf,zh1 hmN hl0 A.rg.f hf]
  ·rw[if_neg hf,if_neg hf]
 have HF1:Hid (∀W L',St N W b {s with asked:=s.asked++[ldA o.seq pl (mN:Int)]} L'->∀v,U32 v->Calls prog 87 #[.pointer (some ⟨b,0,none⟩),.int .i64 (l1.length:Int),cvC (onC o.pc o.i.rd v)] W fun e w'=>e=.returned (.tuple #[])/\∃L'',St N w' b (finish {s with asked:=s.asked++[ldA o.seq pl (mN:Int)]} o (onC o.pc o.i.rd v)) L''/\To b W L' w' L''):=fun W L' SW v hv=>
  xS SW (zoq A hu pl (mN:Int) hplU (by omega)) (by omega) hu (by omega) (zmr hl0) (zeq hdr.pc hdr.rd hv)
 have HF2:Hid (∀W L',St N W b s L'->Calls prog 87 #[.pointer (some ⟨b,0,none⟩),.int .i64 (l1.length:Int),cvC (qj o.pc 3)] W fun e w'=>e=.returned (.tuple #[])/\∃L'',St N w' b (finish s o (qj o.pc 3)) L''/\To b W L' w' L''):=fun W L' SW=>
  xS SW A (by omega) hu (by omega) (zms hl0) (jy hdr.pc (by omega))
 have HLV:Hid (ok=true->U32 (ldv o.i.op (bt vv))):=fun h=>by
  have hf:fits s.n pl mN=true:=by rw[<-hok];exact h
  rw[hvv,if_pos hf,zh1 hmN hl0 A.rg.f hf]
  have hp:=jw hf
  exact zhG hl0 fun k hk=>zbG (A.rg.f _ (by omega))
 have HSU:Hid (ok=true->su=seeU s.asked o.seq):=fun h=>by rw[hsu,<-hok,h];rfl
 have CE:Hid (∀W,Calls prog 89 #[.int .i64 o.i.op,.int .u32 vv] W fun e w'=>e=.returned (.int .u32 (ldv o.i.op (bt vv)))/\Below W.heap.size W w'):=fun W=>zbd o.i.op vv hvU hl0 W
 have CLd:Hid (∀W v,Calls prog 88 #[ivI o.i,.int .u32 o.pc,.int .u32 v,.bool ok] W fun e w'=>e=.returned (cvC (if ok then onC o.pc o.i.rd v else qj o.pc 3))/\Below W.heap.size W w'):=fun W v=>zlO o.i o.pc v hdr.pc W ok
 have hlA:s.asked.length<=100000000:=by have:=A.rg.lenA;omega
 have hjo:s.under[l1.length]?=some o:=by rw[hu];simp
 have hjl:l1.length<s.under.length:=(Ab.1 hjo).1
 have hln:=A.len
 obtain⟨j,hj⟩:∃j,j=l1.length:=⟨_,rfl⟩
 rw[<-hj]at hjo hjl HF1 HF2⊢
 have HX:Hid (o.a=(x:Int)):=hx
 obtain⟨D,hD⟩:∃D,D=(dgl o).toArray:=⟨_,rfl⟩
 have HD:Hid (D=(dgl o).toArray):=hD
 have HI:Hid ((prog.info? 132).map (·.size)=some D.size/\28=D.size/\D.all (·.oneCell')=true):=by rw[hD];exact⟨zK o,rfl,qY o⟩
 have CL:=fun W=>zjR o.i.op W
 rw[hmN]at CL
 have HWX:Hid (wx=s.wd (x:Int)):=hwx
 have wx0:0<=wx/\wx<=4294967295:=by rw[hwx,<-hx];exact hwa
 clear hrr hu h1 A ho hj hD hdr ra0 hwa hx hmN hl0 epl hok hsu hvv hvU hplU hwx
 go_enter func59,ntmps59
 obtain⟨ug,uo,uc,euv,huc,_,hug,hucs,_⟩:=S.its.iu.at (by omega)
 have k334:w.cell? ⟨b,334,none⟩=some (.slice (some ⟨ug,uo,none⟩) s.under.length uc):=(zd S.row (by omega)).trans (congrArg some euv)
 have HRg:Hid (w.rangeAt ug (uo+j*28) (dgl o)):=by
  intro i v hv
  rw[Ag]
  exact hucs _ _ (qF zF hjo hv)
 obtain⟨un,hun⟩:∃un,un=s.under.length:=⟨_,rfl⟩
 rw[<-hun]at k334 huc hjl hln
 have j0:0<=(j:Int):=by omega
 have j1:(j:Int)<(un:Int):=by omega
 clear euv hucs hug hun hjo
 go_upto_region 1 with(first|(refine wpList_load_mid rfl 132 _ rfl ug (uo+j*28) rfl (dgl o) _ HRg.out underlying132 rfl qt ?_;rw[<-HD.out])|(refine wpList_store_row rfl 132 _ _ rfl _ _ rfl rfl 132 _ (heap_alloc_new _ _) HI.out.1 HI.out.2.1 HI.out.2.2 ?_;rw[World.setRow_alloc_new]))
 refine Wi.zj (Φ:=fun W=>Code.wp _ _ _ _ W) ?_
 intro V1 h1 hb
 have B1:Hid (Bx V1 w.heap.size o):=by show _=_;rw[h1,HD.out]
 have S1:Hid (St N V1 b s L):=S.below hb
 have T1:Hid (To b w L V1 L):=ze L hb
 have HB1:Hid (Below w.heap.size w V1):=hb
 have hzo:Hid (¬own b L w.heap.size):=fun h=>by have:=qN S h;omega
 clear h1 hb S k334 HRg HI HD
 obtain⟨z,hz⟩:∃z,z=w.heap.size:=⟨_,rfl⟩
 rw[<-hz]at B1 hzo⊢
 clear hz
 have c2:V1.cell? ⟨z,2,none⟩=some (.int .i64 o.i.op):=zl B1.out 2 rfl
 have c6:V1.cell? ⟨z,6,none⟩=some (.int .i32 o.i.im):=zl B1.out 6 rfl
 have c8:V1.cell? ⟨z,8,none⟩=some (.int .i64 (x:Int)):=zl B1.out 8 (by rw[<-HX.out];rfl)
 have cx:V1.cell? ⟨b,141+x,none⟩=some (.int .u32 wx):=by rw[HWX.out];exact S1.out.wrd x hx1
 have x0:0<=(x:Int):=by omega
 have x1:(x:Int)<96:=by omega
 have m0:0<=(mN:Int):=by omega
 have m4:(mN:Int)<=4:=by omega
 have hwm:IntKind.i64.wrap (mN:Int)=(mN:Int):=by rcases hmc with h|h|h<;>rw[h]<;>rfl
 refine zq (S:=fun w'=>w'.cell? ⟨z,2,none⟩=some (.int .i64 o.i.op)/\w'.cell? ⟨z,6,none⟩=some (.int .i32 o.i.im)/\w'.cell? ⟨z,8,none⟩=some (.int .i64 (x:Int))/\w'.cell? ⟨b,141+x,none⟩=some (.int .u32 wx)) [] (by kernel_rfl) (⟨c2,c6,c8,cx⟩) (fun hH=>?_)
 refine tU 0 (.pointer (some ⟨b,0,none⟩)) ?_;go_simp
 refine tU 1 (.pointer (some ⟨z,8,none⟩)) ?_;go_simp
 refine tS 2 (.int .i64 (x:Int)) rfl (Or.inl ⟨by rfl,by intro wz hSw;have hc:=hSw.2.2.1;go_simp⟩) hH ?_;go_simp
 refine tU 3 (.pointer (some ⟨b,0,none⟩)) ?_;go_simp
 refine tU 4 (.pointer (some ⟨b,141,none⟩)) ?_;go_simp
 refine tU 5 (.pointer (some ⟨b,141+x,none⟩)) ?_;go_simp
 refine tS 6 (.int .u32 wx) rfl (Or.inl ⟨by rfl,by intro wz hSw;have hc:=hSw.2.2.2;go_simp⟩) hH ?_;go_simp
 refine tU 7 (.pointer (some ⟨z,2,none⟩)) ?_;go_simp
 refine tU 8 (.pointer (some ⟨z,6,none⟩)) ?_;go_simp
 refine tS 9 (.int .i32 o.i.im) rfl (Or.inl ⟨by rfl,by intro wz hSw;have hc:=hSw.2.1;go_simp⟩) hH ?_;go_simp
 refine tU 10 (.int .u32 iw) ?_;go_simp
 refine tU 11 (.int .u32 pl) ?_;go_simp
 refine tU 12 (.pointer (some ⟨z,2,none⟩)) ?_;go_simp
 refine tU 13 (.pointer (some ⟨z,2,none⟩)) ?_;go_simp
 refine tA 14 (.int .i64 o.i.op) ?_;go_simp
 refine zC 15 rfl (fun K hK=>?_)
 go_simp
 refine(CL _).mono ?_
 rintro e V2 ⟨rfl,hk2⟩
 have HK2:Hid (Below V1.heap.size V1 V2):=zg hk2 (WZ _)
 go_wp2_with fail
 refine hK.out _ _ (⟨zn hk2 (hH.1),zn hk2 (hH.2.1),zn hk2 (hH.2.2.1),zn hk2 (hH.2.2.2)⟩) (fun hN=>?_)
 clear hK K hH
 have hH:=hN
 clear hN
 try go_simp
 refine tU 16 (.int .i64 (mN:Int)) ?_;go_simp
 refine tU 17 (.int .u32 pl) ?_;go_simp
 refine tU 18 (.int .i64 (mN:Int)) ?_;go_simp
 refine zE (by kernel_rfl) ?_ _
 have S2:Hid (St N V2 b s L):=S1.out.below HK2.out
 have B2:Hid (Bx V2 z o):=B1.out.below HK2.out
 have T2:Hid (To b w L V2 L):=T1.out.trans (ze L HK2.out)
 have HB2:Hid (Below w.heap.size w V2):=HB1.out.trans (HK2.out.mono HB1.out.size)
 clear hH c2 c6 c8 cx S1 B1 T1 HB1 HK2 CL hiw hpl x0 x1 wx0 him
 obtain⟨aa,ca,ea⟩:=S2.out.its.ia.slice
 obtain⟨pm,cm,em,hm'⟩:=S2.out.its.im
 have k39:V2.cell? ⟨b,39,none⟩=some (.slice pm s.n cm):=(zd S2.out.row (by omega)).trans (congrArg some em)
 have k335:V2.cell? ⟨b,335,none⟩=some (.slice aa s.asked.length ca):=(zd S2.out.row (by omega)).trans (congrArg some ea)
 rw[em,ea]at CSe
 clear hm' em ea
 have c0:V2.cell? ⟨z,0,none⟩=some (.int .i64 o.seq):=zl B2.out 0 rfl
 go_upto_region 2 with fail
 refine zq (S:=fun w'=>w'.cell? ⟨b,335,none⟩=some (.slice aa s.asked.length ca)/\w'.cell? ⟨b,39,none⟩=some (.slice pm s.n cm)/\w'.cell? ⟨z,0,none⟩=some (.int .i64 o.seq)) [] (by kernel_rfl) (⟨k335,k39,c0⟩) (fun hH=>?_)
 refine tU 0 (.pointer (some ⟨b,0,none⟩)) ?_;go_simp
 refine tU 1 (.pointer (some ⟨b,0,none⟩)) ?_;go_simp
 refine tU 2 (.pointer (some ⟨b,335,none⟩)) ?_;go_simp
 refine tA 3 (.slice aa s.asked.length ca) ?_;go_simp
 refine tU 4 (.pointer (some ⟨b,0,none⟩)) ?_;go_simp
 refine tU 5 (.pointer (some ⟨b,0,none⟩)) ?_;go_simp
 refine tU 6 (.pointer (some ⟨b,3,none⟩)) ?_;go_simp
 refine tU 7 (.pointer (some ⟨b,39,none⟩)) ?_;go_simp
 refine tS 8 (.slice pm s.n cm) rfl (Or.inl ⟨by rfl,by intro wz hSw;have hc:=hSw.2.1;go_simp⟩) hH ?_;go_simp
 refine tU 9 (.pointer (some ⟨z,0,none⟩)) ?_;go_simp
 refine tS 10 (.int .i64 o.seq) rfl (Or.inl ⟨by rfl,by intro wz hSw;have hc:=hSw.2.2;go_simp⟩) hH ?_;go_simp
 refine tU 11 (.int .u32 pl) ?_;go_simp
 refine tU 12 (.int .i64 (mN:Int)) ?_;go_simp
 refine zC 13 rfl (fun K hK=>?_)
 go_simp
 refine(CSe.out _ HB2.out.drew).mono ?_
 rintro e V3 ⟨rfl,hk3⟩
 have HK3:Hid (Below V2.heap.size V2 V3):=zg hk3 (WZ _)
 go_wp2_with fail
 refine hK.out _ _ (⟨zn hk3 (hH.1),zn hk3 (hH.2.1),zn hk3 (hH.2.2)⟩) (fun hN=>?_)
 clear hK K hH
 have hH:=hN
 clear hN
 try go_simp
 refine tU 14 (.tuple #[.int .u32 vv,.bool ok,.bool su]) ?_;go_simp
 refine tU 15 (.int .u32 vv) ?_;go_simp
 refine tU 16 (.bool ok) ?_;go_simp
 refine tU 17 (.bool su) ?_;go_simp
 refine tU 18 (.int .u32 vv) ?_;go_simp
 refine tU 19 (.bool ok) ?_;go_simp
 refine tU 20 (.bool su) ?_;go_simp
 refine zE (by kernel_rfl) ?_ _
 have S3:Hid (St N V3 b s L):=S2.out.below HK3.out
 have B3:Hid (Bx V3 z o):=B2.out.below HK3.out
 have T3:Hid (To b w L V3 L):=T2.out.trans (ze L HK3.out)
 clear hH c0 k39 k335 S2 B2 T2 HB2 HK3 CSe
 have c16:V3.cell? ⟨z,16,none⟩=some (.bool o.car):=zl B3.out 16 rfl
 cases ok with
 |false=>
  have hr:=HR.out
  simp only[Ah,if_false]at hr
  have HR2:Hid (r=finish s o (qj o.pc 3)):=hr
  clear hr HR HF1 HSU HLV
  obtain⟨cr,hcr⟩:∃cr,cr=qj o.pc 3:=⟨_,rfl⟩
  have CLd2:Hid (∀W v,Calls prog 88 #[ivI o.i,.int .u32 o.pc,.int .u32 v,.bool false] W fun e w'=>e=.returned (cvC cr)/\Below W.heap.size W w'):=by rw[hcr];exact CLd.out
  have HFN:Hid (∀W L',St N W b s L'->Calls prog 87 #[.pointer (some ⟨b,0,none⟩),.int .i64 (j:Int),cvC cr] W fun e w'=>e=.returned (.tuple #[])/\∃L'',St N w' b r L''/\To b W L' w' L''):=by rw[hcr,HR2.out];exact HF2.out
  clear hcr HR2 CLd HF2
  go_upto_region 6 with fail
  refine zq (S:=fun w'=>w'.rangeAt z 2 ((ivL o.i).toList)/\w'.cell? ⟨z,1,none⟩=some (.int .u32 o.pc)/\w'.cell? ⟨z,2,none⟩=some (.int .i64 o.i.op)) [12] (by kernel_rfl) (⟨xh B3.out,zl B3.out 1 rfl,zl B3.out 2 rfl⟩) (fun hH=>?_)
  refine tU 0 (.pointer (some ⟨b,0,none⟩)) ?_;go_simp
  refine tU 1 (.int .i64 (j:Int)) ?_;go_simp
  refine tU 2 (.pointer (some ⟨z,2,none⟩)) ?_;go_simp
  refine tS 3 (.agg ((ivL o.i).toList).toArray) rfl (Ai (by rfl) 78 _ rfl _ _ rfl ((ivL o.i).toList) _ (fun wz hSw=>hSw.1) underlying78 rfl (qK _)) hH ?_;go_simp
  refine tU 4 (.pointer (some ⟨z,1,none⟩)) ?_;go_simp
  refine tS 5 (.int .u32 o.pc) rfl (Or.inl ⟨by rfl,by intro wz hSw;have hc:=hSw.2.1;go_simp⟩) hH ?_;go_simp
  refine tU 6 (.pointer (some ⟨z,2,none⟩)) ?_;go_simp
  refine tU 7 (.pointer (some ⟨z,2,none⟩)) ?_;go_simp
  refine tU 9 (.int .u32 vv) ?_;go_simp
  refine tU 11 (.bool false) ?_;go_simp
  refine zC 8 rfl (fun K hK=>?_)
  have hc:=hH.2.2
  go_simp
  clear hc
  refine hK.out _ _ (hH) (fun hN=>?_)
  clear hK K hH
  have hH:=hN
  clear hN
  try go_simp
  refine zC 10 rfl (fun K hK=>?_)
  go_simp
  refine(CE.out _).mono ?_
  rintro e V6 ⟨rfl,hk6⟩
  have HK6:Hid (Below V3.heap.size V3 V6):=zg hk6 (WZ _)
  go_wp2_with fail
  refine hK.out _ _ (⟨xg hk6 (hH.1),zn hk6 (hH.2.1),zn hk6 (hH.2.2)⟩) (fun hN=>?_)
  clear hK K hH
  have hH:=hN
  clear hN
  try go_simp
  refine zL 12 rfl (fun K hK=>?_)
  go_simp
  refine(CLd2.out _ _).mono ?_
  rintro e V7 ⟨rfl,hk7⟩
  have HK7:Hid (Below V3.heap.size V3 V7):=HK6.out.trans (hk7.mono HK6.out.size)
  go_wp2_with fail
  refine hK.out _ _ ?_
  clear hK K
  try go_simp
  refine zL 13 rfl (fun K hK=>?_)
  go_simp
  refine(HFN.out _ _ (S3.out.below HK7.out)).mono ?_
  rintro e V8 ⟨rfl,L8,u1,u2⟩
  have S8:Hid (St N V8 b r L8):=u1
  have T8:Hid (To b w L V8 L8):=(T3.out.trans (ze _ HK7.out)).trans u2
  clear u1 u2
  go_wp2_with fail
  refine hK.out _ _ ?_
  clear hK K
  try go_simp
  refine zE (by kernel_rfl) ?_ _
  clear hH
  go_wp2_with fail
  refine Aj (Ae rfl _ _ _) rfl ⟨rfl,L8,S8.out,T8.out⟩
 |true=>
  have hsu:=HSU.out rfl
  have hlv:=HLV.out rfl
  cases hcs:(!(seeU s.asked o.seq)&&o.car)with
  |true=>
   have hr:=HR.out
   simp only[if_true]at hr
   rw[hcs]at hr
   simp only[if_true]at hr
   have HR2:Hid (r=s):=hr
   clear hr
   rw[Bool.and_eq_true]at hcs
   have h1:seeU s.asked o.seq=false:=by simpa using hcs.1
   have h2:=hcs.2
   rw[h1]at hsu
   subst hsu
   rw[h2]at c16
   clear HR HF1 HF2 CLd CE h1 h2 hcs HLV HSU
   go_wp2_with fail
   refine bodyPost_ret (Ae rfl _ _ _) rfl ⟨rfl,L,by rw[HR2.out];exact S3.out,T3.out⟩
  |false=>
   have hr:=HR.out
   simp only[if_true]at hr
   rw[hcs]at hr
   simp only[Ah,if_false]at hr
   obtain⟨s',hs'⟩:∃s':Cr,s'={s with asked:=s.asked++[ldA o.seq pl (mN:Int)]}:=⟨_,rfl⟩
   obtain⟨cr,hcr⟩:∃cr,cr=onC o.pc o.i.rd (ldv o.i.op (bt vv)):=⟨_,rfl⟩
   have CLd2:Hid (∀W,Calls prog 88 #[ivI o.i,.int .u32 o.pc,.int .u32 (ldv o.i.op (bt vv)),.bool true] W fun e w'=>e=.returned (cvC cr)/\Below W.heap.size W w'):=by rw[hcr];exact fun W=>CLd.out W _
   have HFN:Hid (∀W L',St N W b s' L'->Calls prog 87 #[.pointer (some ⟨b,0,none⟩),.int .i64 (j:Int),cvC cr] W fun e w'=>e=.returned (.tuple #[])/\∃L'',St N w' b r L''/\To b W L' w' L''):=fun W L' SW=>by
    rw[hcr,hr]
    rw[hs']at SW
    exact HF1.out W L' SW _ hlv
   have hgo:su=true\/o.car=false:=by
    rw[hsu]
    cases h:seeU s.asked o.seq with
    |true=>exact .inl rfl
    |false=>rw[h]at hcs;exact .inr (by simpa using hcs)
   have HS':Hid (s'={s with asked:=s.asked++[ldA o.seq pl (mN:Int)]}):=hs'
   clear hr HR hcr CLd HF1 HF2 HLV HSU hsu hlv hcs hs'
   have hnq:L.a.ownBlock≠some z:=fun h=>hzo.out (.inr (.inr (.inr h)))
   have hgo2:(su=true)\/(su=false/\o.car=false):=by
    cases su with
    |true=>exact .inl rfl
    |false=>exact .inr ⟨rfl,by simpa using hgo⟩
   clear hgo
   rcases hgo2 with hsu|⟨hsu,hca⟩
   case' _=>
    subst hsu
   rotate_left
   case' _=>
    subst hsu
    rw[hca]at c16
   rotate_left
   all_goals
    go_upto_region 5 with fail
    have SV:Hid (St N V3 b s L):=S3.out
    obtain⟨a9,c9,ea⟩:=SV.out.its.ia.slice
    have kA:V3.cell? ⟨b,335,none⟩=some (.slice a9 (s.asked.length) c9):=(zd SV.out.row (by omega)).trans (congrArg some ea)
    have HU:Hid (Us V3 135 7 (.slice a9 (s.asked.length) c9) (s.asked.length) (flat cel s.asked)):=by have:=SV.out.its.ia;rw[ea]at this;exact this
    have hnb:(Af a9 (s.asked.length) c9).ownBlock≠some b:=fun h=>(SV.out.apart.2.2 b (by rw[ea];exact h)).2.2 rfl
    have hlt0:∀g,(Af a9 (s.asked.length) c9).ownBlock=some g->g<V3.heap.size:=fun g h=>SV.out.its.lt (.inr (.inr (by rw[ea];exact h)))
    refine zq (S:=fun w'=>w'.cell? ⟨b,335,none⟩=some (.slice a9 (s.asked.length) c9)/\w'.cell? ⟨z,0,none⟩=some (.int .i64 o.seq)) [14] (by kernel_rfl) (⟨kA,zl B3.out 0 rfl⟩) (fun hH=>?_)
    refine tU 0 (.pointer (some ⟨b,0,none⟩)) ?_;go_simp
    refine tU 1 (.pointer (some ⟨b,0,none⟩)) ?_;go_simp
    refine tU 2 (.pointer (some ⟨b,0,none⟩)) ?_;go_simp
    refine tU 3 (.pointer (some ⟨b,335,none⟩)) ?_;go_simp
    refine tA 4 (.slice a9 (s.asked.length) c9) ?_;go_simp
    refine tU 5 (.pointer (some ⟨z,0,none⟩)) ?_;go_simp
    refine tB 6 (.int .i64 o.seq) ?_;go_simp
    refine tU 7 (.int .u32 pl) ?_;go_simp
    refine tU 8 (.int .i64 (mN:Int)) ?_;go_simp
    refine tU 9 (.agg #[.int .i64 o.seq,.bool false,.bool true,.int .u32 pl,.int .i64 (mN:Int),.int .u32 0,.bool true]) ?_;go_simp
    refine zC 10 rfl (fun K hK=>?_)
    go_simp
    refine hK.out _ _ (⟨jD _ (hH.1),jD _ (hH.2)⟩) (fun hN=>?_)
    clear hK K hH
    have hH:=hN
    clear hN
    try go_simp
    refine zC 11 rfl (fun K hK=>?_)
    rw[if_pos (by rfl)]
    refine qP _ _ 64 rfl 135 iA _ 7 32 underlying64 hi hz0 hz1 hz2 rfl (by decide) _ (s.asked.length) _ rfl (HU.out.below ((Am _ _).drew.alloc (WZ _) _)) V3.heap.size (cel (ldA o.seq pl (mN:Int))) rfl rfl (fun j u hj=>jO (w:=V3.drew) j u hj) (xa _) (by omega) (by omega) ?_
    intro v1 w1 hU1 hG1 hF1
    obtain⟨p1,c1,rfl⟩:=hU1.slice
    have fA:w1.frozen? ⟨b,335,none⟩=false:=frozen_of_row _ _ _ _ _ ((hG1.block b (by have:=SV.out.lt;simp;omega) (fun h=>hnb h.symm)).trans ((Below.heap_alloc _ _ _ SV.out.lt).trans SV.out.row))
    have HU1:Hid (Us w1 135 7 (.slice p1 ((s.asked.length)+1) c1) ((s.asked.length)+1) (flat cel s.asked++cel (ldA o.seq pl (mN:Int)))):=hU1
    have HG1:Hid (V3.grownBy w1 L.a.ownBlock):=by rw[ea];exact qG (jr hG1 (fun g hg=>hlt0 g hg))
    have HF1:Hid (∀g,(Af p1 ((s.asked.length)+1) c1).ownBlock=some g->L.a.ownBlock=some g\/V3.heap.size<=g):=fun g hg=>(hF1 g hg).imp (fun h=>by rw[ea];exact h) (fun h=>Ak (by simp) h)
    refine hK.out _ _ (⟨zae hG1 (hH.1) (hnb),zae hG1 (hH.2) (by rw[<-ea];exact hnq)⟩) (fun hN=>?_)
    clear hK K hH
    have hH:=hN
    clear hN
    try go_simp
    have cA:=hH.1
    clear hU1 hG1 hF1 HU hnb hlt0 kA
    refine tU 12 (.pointer (some ⟨b,0,none⟩)) ?_;go_simp
    refine tU 13 (.pointer (some ⟨b,335,none⟩)) ?_;go_simp
    refine zL 14 rfl (fun K hK=>?_)
    go_simp
    refine hK.out _ _ ?_
    clear hK K
    try go_simp
    refine zE (by kernel_rfl) ?_ _
    obtain⟨S1,T1⟩:=St.appA SV.out (ldA o.seq pl (mN:Int)) HU1.out HG1.out HF1.out
    clear HU1 HG1 HF1 hH cA fA
    generalize w1.setCell ⟨b,335,none⟩ (.slice p1 ((s.asked.length)+1) c1)=W1 at*
    generalize Af p1 ((s.asked.length)+1) c1=v1 at*
    rw[<-HS'.out]at S1
    have S5:Hid (St N W1 b s' {L with a:=v1}):=S1
    have T5:Hid (To b w L W1 {L with a:=v1}):=T3.out.trans T1
    have B5:Hid (Bx W1 z o):=B3.out.to T1 hzo.out
    clear S1 T1 SV S3 B3 T3 c16
    generalize ({L with a:=v1}:Sls)=L5 at*
    go_upto_region 6 with fail
    refine zq (S:=fun w'=>w'.rangeAt z 2 ((ivL o.i).toList)/\w'.cell? ⟨z,1,none⟩=some (.int .u32 o.pc)/\w'.cell? ⟨z,2,none⟩=some (.int .i64 o.i.op)) [12] (by kernel_rfl) (⟨xh B5.out,zl B5.out 1 rfl,zl B5.out 2 rfl⟩) (fun hH=>?_)
    refine tU 0 (.pointer (some ⟨b,0,none⟩)) ?_;go_simp
    refine tU 1 (.int .i64 (j:Int)) ?_;go_simp
    refine tU 2 (.pointer (some ⟨z,2,none⟩)) ?_;go_simp
    refine tS 3 (.agg ((ivL o.i).toList).toArray) rfl (Ai (by rfl) 78 _ rfl _ _ rfl ((ivL o.i).toList) _ (fun wz hSw=>hSw.1) underlying78 rfl (qK _)) hH ?_;go_simp
    refine tU 4 (.pointer (some ⟨z,1,none⟩)) ?_;go_simp
    refine tS 5 (.int .u32 o.pc) rfl (Or.inl ⟨by rfl,by intro wz hSw;have hc:=hSw.2.1;go_simp⟩) hH ?_;go_simp
    refine tU 6 (.pointer (some ⟨z,2,none⟩)) ?_;go_simp
    refine tU 7 (.pointer (some ⟨z,2,none⟩)) ?_;go_simp
    refine tU 9 (.int .u32 vv) ?_;go_simp
    refine tU 11 (.bool true) ?_;go_simp
    refine zC 8 rfl (fun K hK=>?_)
    have hc:=hH.2.2
    go_simp
    clear hc
    refine hK.out _ _ (hH) (fun hN=>?_)
    clear hK K hH
    have hH:=hN
    clear hN
    try go_simp
    refine zC 10 rfl (fun K hK=>?_)
    go_simp
    refine(CE.out _).mono ?_
    rintro e V6 ⟨rfl,hk6⟩
    have HK6:Hid (Below W1.heap.size W1 V6):=zg hk6 (WZ _)
    go_wp2_with fail
    refine hK.out _ _ (⟨xg hk6 (hH.1),zn hk6 (hH.2.1),zn hk6 (hH.2.2)⟩) (fun hN=>?_)
    clear hK K hH
    have hH:=hN
    clear hN
    try go_simp
    refine zL 12 rfl (fun K hK=>?_)
    go_simp
    refine(CLd2.out _).mono ?_
    rintro e V7 ⟨rfl,hk7⟩
    have HK7:Hid (Below W1.heap.size W1 V7):=HK6.out.trans (hk7.mono HK6.out.size)
    go_wp2_with fail
    refine hK.out _ _ ?_
    clear hK K
    try go_simp
    refine zL 13 rfl (fun K hK=>?_)
    go_simp
    refine(HFN.out _ _ (S5.out.below HK7.out)).mono ?_
    rintro e V8 ⟨rfl,L8,u1,u2⟩
    have S8:Hid (St N V8 b r L8):=u1
    have T8:Hid (To b w L V8 L8):=(T5.out.trans (ze _ HK7.out)).trans u2
    clear u1 u2
    go_wp2_with fail
    refine hK.out _ _ ?_
    clear hK K
    try go_simp
    refine zE (by kernel_rfl) ?_ _
    clear hH
    go_wp2_with fail
    refine Aj (Ae rfl _ _ _) rfl ⟨rfl,L8,S8.out,T8.out⟩
theorem zbj{l:List Int}{k:Nat}{x:Int}(h:l[k]?=some x):l.drop k=x::l.drop (k+1):=by
 have hk:=(Ab.1 h).1
 rw[List.drop_eq_getElem_cons hk]
 rw[Aa hk]at h
 rw[Option.some.inj h]
theorem zh2{s:Cr}{q:Int}(h:s.under.find? (fun p=>decide (p.seq=q))=none):lodS s q=s:=by unfold lodS;rw[h]
theorem zh3{s:Cr}{l1 l2:List Dg}{o:Dg}(hu:s.under=l1++o::l2)(hr:Rise s.under)(h:0<o.late):lodS s o.seq={s with under:=s.under.set l1.length {o with late:=o.late-1}}:=by
 have hf:s.under.find? (fun p=>decide (p.seq=o.seq))=some o:=by have h2:=hr;rw[hu]at h2⊢;exact kS h2
 unfold lodS
 rw[hf]
 simp only[]
 rw[if_pos h,(zdo hu hr (fun o=>{o with late:=o.late-1})).1]
theorem zjS{s:Cr}{l1 l2:List Dg}{o:Dg}(hu:s.under=l1++o::l2)(hr:Rise s.under)(h:¬0<o.late):lodS s o.seq=lod1 s o:=by
 have hf:s.under.find? (fun p=>decide (p.seq=o.seq))=some o:=by have h2:=hr;rw[hu]at h2⊢;exact kS h2
 unfold lodS
 rw[hf]
 simp only[]
 rw[if_neg h]
theorem qy{b:Nat}{w w':World}{L L':Sls}{a:Option Addr}{n c size:Nat}{cs:List Value}(h:LC w a n c size cs)(f:0<n->∀x,a=some x->¬own b L x.block)(T:To b w L w' L'):LC w' a n c size cs/\(0<n->∀x,a=some x->¬own b L' x.block):=
 ⟨qH h T.size fun h0 x hx=>by
  obtain⟨g,o,e,hlt,_⟩:=h.ad x hx h0
  subst e
  exact T.block g hlt (f h0 _ hx),fun h0=>zdr h T h0 (f h0)⟩
theorem zh4{N:Nat}{w:World}{b:Nat}{s:Cr}{L:Sls}(S:St N w b s L){m:Nat->Int}{K:Int}(A:Al mach K s m)(hK:K<=6000000):
  Calls prog 30 #[.pointer (some ⟨b,0,none⟩)] w fun e w'=>e=.returned (.tuple #[])/\∃L',St N w' b (load s) L'/\To b w L w' L':=by
 have hln:=A.len
 obtain⟨qs,hqs⟩:∃qs,qs=(s.under.filter fun o=>decide (o.st=1)).map (·.seq):=⟨_,rfl⟩
 have C0:Hid (Calls prog 56 #[.pointer (some ⟨b,0,none⟩),.func (.func 57) #[] #[]] w fun e w'=>(∃v,e=.returned v/\w'.ownsRow w.heap.size 3 1 v qs.length (ics qs))/\Below w.heap.size w w'):=by
  rw[hqs]
  exact znI 57 (fun o=>decide (o.st=1)) zjo S (by omega) (fun W o _ _=>zfl o W)
 have I0:Hid (LoadI mach K qs s m):=by rw[hqs];exact LoadI.begin A
 obtain⟨r,hr⟩:∃r,r=load s:=⟨_,rfl⟩
 have HR:Hid (qs.foldl lodS s=r):=by show _=_;rw[hr,hqs];rfl
 rw[<-hr]
 have hql:qs.length<=32:=by rw[hqs,List.length_map];exact Ak (List.length_filter_le _ _) hln
 have HS:Hid (St N w b s L):=S
 clear hqs hr A S hln
 go_enter func30,ntmps30
 go_wp2_with fail
 refine C0.out.mono ?_
 rintro e V1 ⟨⟨v1,rfl,hown⟩,hk1⟩
 obtain⟨a,c,rfl,hl,hf⟩:=Wi.qv hown (jA qs)
 have S1:Hid (St N V1 b s L):=HS.out.below hk1
 have T1:Hid (To b w L V1 L):=ze L hk1
 have HL:Hid (LC V1 a qs.length c 1 (ics qs)):=hl
 have HF:Hid (∀x,a=some x->¬own b L x.block):=qV HS.out (WZ _) hf
 clear hown hl hf hk1 C0 HS
 go_wp2_with fail
 go_loopw [8] (fun i wr=>∃k:Nat,k<=qs.length/\i=.int .i64 (k:Int)/\Hid (∃s' L',St N wr b s' L'/\To b w L wr L'/\LoadI mach (K+3*k) (qs.drop k) s' m/\(qs.drop k).foldl lodS s'=r/\LC wr a qs.length c 1 (ics qs)/\(0<qs.length->∀x,a=some x->¬own b L' x.block)))
  (fun i _=>qs.length-(intOf i).toNat)
 case atStart=>exact⟨0,by omega,rfl,s,L,S1.out,T1.out,by have:=I0.out;exact⟨this.al.mono (by omega),this.nod,this.are⟩,HR.out,HL.out,fun _=>HF.out⟩
 case round=>
  obtain⟨k,hk,rfl,s',L',S2,T2,I2,R2,LC2,F2⟩:=hrel
  clear S1 T1 HL HF I0 HR
  by_cases hlt:k<qs.length
  ·obtain⟨q,hq⟩:∃q,qs[k]?=some q:=⟨_,Aa hlt⟩
   have hdr:=zbj hq
   rw[hdr]at I2 R2
   rw[List.foldl_cons]at R2
   obtain⟨ga,oa,ea,hga,hca⟩:=LC2.sure (by omega)
   subst ea
   have cs:wr.cell? ⟨ga,oa+k,none⟩=some (.int .i64 q):=hca k _ (jR hq)
   have HS2:Hid (St N wr b s' L'):=S2
   have HT2:Hid (To b w L wr L'):=T2
   have HI3:Hid (LoadI mach (K+3*k+3) (qs.drop (k+1)) (lodS s' q) m):=I2.step zM
   have HR2:Hid ((qs.drop (k+1)).foldl lodS (lodS s' q)=r):=R2
   have HLC:Hid (LC wr (some ⟨ga,oa,none⟩) qs.length c 1 (ics qs)/\(0<qs.length->∀x,(some ⟨ga,oa,none⟩:Option Addr)=some x->¬own b L' x.block)):=⟨LC2,F2⟩
   have hln:=I2.al.len
   have hrise:=I2.al.inv.rise
   have hK3:K+3*(k:Int)<=6000100:=by omega
   clear hca hga hdr R2 LC2 F2 T2 hq
   cases hfd:s'.under.find? (fun p=>decide (p.seq=q))with
   |none=>
    have e:=zh2 hfd
    rw[e]at HI3 HR2
    have CF:Hid (Calls prog 58 #[.pointer (some ⟨b,0,none⟩),.int .i64 q] wr fun e w'=>e=.returned (.int .i64 (-1))/\Below wr.heap.size wr w'):=by
     have:=qO S2 q s'.under.length (zbh hfd) (by omega)
     rw[if_neg (by omega)]at this
     exact this
    clear e hfd S2 I2 hrise hln
    go_wp2_with fail
    refine CF.out.mono ?_
    rintro e V2 ⟨rfl,hk2⟩
    have t2:=ze (b:=b) L' hk2
    have S3:Hid (St N V2 b s' L'):=HS2.out.below hk2
    have T3:Hid (To b w L V2 L'):=HT2.out.trans t2
    have L3:Hid (LC V2 (some ⟨ga,oa,none⟩) qs.length c 1 (ics qs)/\(0<qs.length->∀x,(some ⟨ga,oa,none⟩:Option Addr)=some x->¬own b L' x.block)):=qy HLC.out.1 HLC.out.2 t2
    clear hk2 t2 CF HS2 HT2 HLC cs
    go_wp2_with fail
    exact⟨⟨k+1,by omega,by go_num,s',L',S3.out,T3.out,⟨HI3.out.al.mono (by push_cast;omega),HI3.out.nod,HI3.out.are⟩,HR2.out,L3.out.1,L3.out.2⟩,by simp[intOf];omega⟩
   |some o=>
    obtain⟨l1,l2,hu,hoq⟩:=jK hfd
    subst hoq
    have ho1:=I2.are o.seq (List.mem_cons_self ..) o (by rw[hu];simp) rfl
    have hlat:=I2.al.inv.lat o (by rw[hu];simp)
    obtain⟨j,hj⟩:∃j,j=l1.length:=⟨_,rfl⟩
    have hjo:s'.under[j]?=some o:=by rw[hu,hj];simp
    have hjl:j<s'.under.length:=(Ab.1 hjo).1
    have CF:Hid (Calls prog 58 #[.pointer (some ⟨b,0,none⟩),.int .i64 o.seq] wr fun e w'=>e=.returned (.int .i64 (j:Int))/\Below wr.heap.size wr w'):=by
     have:=qO S2 o.seq j (by rw[hj];exact jP hu hrise) (by omega)
     rw[if_pos hjl]at this
     exact this
    have HLA:Hid (0<o.late->lodS s' o.seq={s' with under:=s'.under.set j {o with late:=o.late-1}}):=fun h=>by rw[hj];exact zh3 hu hrise h
    have HC1:Hid (¬0<o.late->∀W,St N W b s' L'->Calls prog 59 #[.pointer (some ⟨b,0,none⟩),.int .i64 (j:Int)] W fun e w'=>e=.returned (.tuple #[])/\∃L'',St N w' b (lodS s' o.seq) L''/\To b W L' w' L''):=fun h W SW=>by
     rw[hj,zjS hu hrise h]
     exact zco SW I2.al (by omega) hu ho1
    clear hfd hu hj I2 hrise S2 ho1
    go_wp2_with fail
    refine CF.out.mono ?_
    rintro e V2 ⟨rfl,hk2⟩
    have t2:=ze (b:=b) L' hk2
    have S3:Hid (St N V2 b s' L'):=HS2.out.below hk2
    have T3:Hid (To b w L V2 L'):=HT2.out.trans t2
    have L3:Hid (LC V2 (some ⟨ga,oa,none⟩) qs.length c 1 (ics qs)/\(0<qs.length->∀x,(some ⟨ga,oa,none⟩:Option Addr)=some x->¬own b L' x.block)):=qy HLC.out.1 HLC.out.2 t2
    clear hk2 t2 CF HS2 HT2 HLC cs
    obtain⟨ug,uo,uc,euv,huc,_,hug,hucs,_⟩:=S3.out.its.iu.at (by omega)
    obtain⟨un,hun⟩:∃un,un=s'.under.length:=⟨_,rfl⟩
    have HEU:Hid (L'.u=.slice (some ⟨ug,uo,none⟩) un uc):=by rw[hun];exact euv
    have k334:V2.cell? ⟨b,334,none⟩=some (.slice (some ⟨ug,uo,none⟩) un uc):=(zd S3.out.row (by omega)).trans (congrArg some HEU.out)
    have c15:V2.cell? ⟨ug,uo+j*28+15,none⟩=some (.int .i64 o.late):=by
     rw[Ag]
     exact hucs _ _ (qF zF hjo rfl)
    have hjo':Hid (s'.under[j]?=some o):=hjo
    rw[<-hun]at hjl huc hln
    have j0:0<=(j:Int):=by omega
    have j1:(j:Int)<(un:Int):=by omega
    have hju:¬((j:Int)<0):=by omega
    clear hucs hug euv hun hjo
    by_cases hl:0<o.late
    ·have e:=HLA.out hl
     rw[e]at HI3 HR2
     obtain⟨g',o',cap',ev',hth,s4,t4⟩:=S3.out.putU (y:={o with late:=o.late-1}) (j:=15) (news:=[.int .i64 (o.late-1)]) hjo'.out (by show 15+1<=28;omega) rfl (by intro u hu;simp at hu;subst hu;rfl)
     obtain⟨rfl,rfl⟩:ug=g'/\uo=o':=by rw[HEU.out]at ev';injection ev' with h1 _ _;injection h1 with h1;injection h1 with h1 h2;exact⟨h1,h2⟩
     rw[<-Ag]at hth s4 t4
     have f15:V2.frozen? ⟨ug,uo+j*28+15,none⟩=false:=(hth 0 (by show 0<1;omega)).2
     have S4:Hid (St N (V2.setCell ⟨ug,uo+j*28+15,none⟩ (.int .i64 (o.late-1))) b {s' with under:=s'.under.set j {o with late:=o.late-1}} L'):=s4
     have T4:Hid (To b w L (V2.setCell ⟨ug,uo+j*28+15,none⟩ (.int .i64 (o.late-1))) L'):=T3.out.trans t4
     have L4:Hid (LC (V2.setCell ⟨ug,uo+j*28+15,none⟩ (.int .i64 (o.late-1))) (some ⟨ga,oa,none⟩) qs.length c 1 (ics qs)/\(0<qs.length->∀x,(some ⟨ga,oa,none⟩:Option Addr)=some x->¬own b L' x.block)):=qy L3.out.1 L3.out.2 t4
     clear hth s4 t4 ev' e HLA HC1 S3 T3 L3
     go_wp2_with fail
     exact⟨⟨k+1,by omega,by go_num,_,L',S4.out,T4.out,⟨HI3.out.al.mono (by push_cast;omega),HI3.out.nod,HI3.out.are⟩,HR2.out,L4.out.1,L4.out.2⟩,by simp[intOf];omega⟩
    ·have HC2:Hid _:=HC1.out (by omega)
     clear HLA HC1
     go_wp2_with fail
     refine(HC2.out _ S3.out).mono ?_
     rintro e V4 ⟨rfl,L4,u1,u2⟩
     have S4:Hid (St N V4 b (lodS s' o.seq) L4):=u1
     have T4:Hid (To b w L V4 L4):=T3.out.trans u2
     have LL4:Hid (LC V4 (some ⟨ga,oa,none⟩) qs.length c 1 (ics qs)/\(0<qs.length->∀x,(some ⟨ga,oa,none⟩:Option Addr)=some x->¬own b L4 x.block)):=qy L3.out.1 L3.out.2 u2
     clear u1 u2 S3 T3 L3 HC2 k334 c15
     go_wp2_with fail
     exact⟨⟨k+1,by omega,by go_num,_,L4,S4.out,T4.out,⟨HI3.out.al.mono (by push_cast;omega),HI3.out.nod,HI3.out.are⟩,HR2.out,LL4.out.1,LL4.out.2⟩,by simp[intOf];omega⟩
  ·have hkl:k=qs.length:=by omega
   have e:qs.drop k=[]:=List.drop_eq_nil_of_le (by omega)
   rw[e]at R2
   have hr:s'=r:=R2
   subst hr
   have HS2:Hid (St N wr b s' L'):=S2
   have HT2:Hid (To b w L wr L'):=T2
   clear S2 T2 I2 LC2 F2 R2 e hkl
   go_wp2_with fail
   refine Aj (Ae rfl _ _ _) rfl ⟨rfl,L',HS2.out,HT2.out⟩
theorem zeF(x0:Int)(y:List Int)(k:Nat)(v:Int):(ics (x0::y)).set (1+k) (.int .i64 v)=ics (x0::y.set k v):=by
 rw[zcO,show 1+k=k+1 by omega]
 rfl
theorem zbk(g cap n B:Nat)(x0:Int)(x:List Int)(hn:0<n)(hn2:n<=1000000)(hx:Hid (x.length=n))(w:World)(hO:Hid (w.ownsRow B 3 1 (.slice (some ⟨g,0,none⟩) (n+1) cap) (n+1) (ics (x0::x)))):
  Calls prog 62 #[.slice (some ⟨g,1,none⟩) n (cap-1)] w fun e w'=>e=.returned (.tuple #[])/\Hid (w'.ownsRow B 3 1 (.slice (some ⟨g,0,none⟩) (n+1) cap) (n+1) (ics (x0::x.reverse)))/\w.grownBy w' (some g):=by
 go_enter func62,ntmps62
 go_wp2_with fail
 go_loopw [2,3] (fun i j wr=>∃(k jj:Nat) (y:List Int),k+jj+1=n/\i=.int .i64 k/\j=.int .i64 jj/\Hid (wr.ownsRow B 3 1 (.slice (some ⟨g,0,none⟩) (n+1) cap) (n+1) (ics (x0::y)))/\Hid (Rv x y k)/\Hid (w.grownBy wr (some g)))
  (fun i j _=>(intOf j).toNat+1-(intOf i).toNat)
 case atStart=>exact⟨0,n-1,x,by omega,rfl,by go_num,hO,zg6 x,An _ _⟩
 case round=>
  obtain⟨k,j,y,hkj,rfl,rfl,HO,HR,HG⟩:=hrel
  by_cases hlt:k<j
  ·have hl:Hid (y.length=n):=HR.out.len.trans hx.out
   obtain⟨p,hp⟩:∃p,y[k]?=some p:=⟨_,Aa (by rw[hl.out];omega)⟩
   obtain⟨q,hq⟩:∃q,y[j]?=some q:=⟨_,Aa (by rw[hl.out];omega)⟩
   have c0:wr.cell? ⟨g,1+k,none⟩=some (.int .i64 p):=(HO.out.cellAt (1+k) (by omega)).trans (jR (by rw[show 1+k=k+1 by omega];exact hp))
   have c1:wr.cell? ⟨g,1+j,none⟩=some (.int .i64 q):=(HO.out.cellAt (1+j) (by omega)).trans (jR (by rw[show 1+j=j+1 by omega];exact hq))
   have f0:wr.frozen? ⟨g,1+k,none⟩=false:=HO.out.frozenAt _
   have f1:wr.frozen? ⟨g,1+j,none⟩=false:=HO.out.frozenAt _
   have hkn:k<n:=by omega
   have hjn:j<n:=by omega
   have Hp:Hid (y[k]?=some p):=hp
   have Hq:Hid (y[j]?=some q):=hq
   clear hp hq
   go_wp2_with fail
   go_region
   go_wp2_with fail
   have s1:=HO.out.stored (1+k) (.int .i64 q)
   have s2:=s1.1.stored (1+j) (.int .i64 p)
   rw[zeF,zeF]at s2
   exact⟨⟨k+1,j-1,_,by omega,by go_num,by go_num,s2.1.drew,HR.out.step (by rw[hx.out];exact hkj) hlt Hp.out Hq.out,zjy (zB (zB HG.out s1.2) s2.2)⟩,by simp[intOf];omega⟩
  ·go_wp2_with fail
   go_end0
   rw[HR.out.all (by rw[hx.out];exact hkj) (by omega)]at HO
   exact⟨rfl,HO,HG.out⟩
end Go.Proofs.YtpiohehijkpghacGreatDoor.Co
