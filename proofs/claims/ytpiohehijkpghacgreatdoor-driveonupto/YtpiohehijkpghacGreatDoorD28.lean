/- slices.Contains of numbers; what goes with a commit: the program. -/
import Derived.Test.YtpiohehijkpghacGreatDoorD27
open Array renaming length_toList->Af,toArray_toList->Aj
open Go renaming yieldsIf_load_mid->Ab,wpList_load_mid->Ad,bodyPost_end->Ag,results_none->Ah,wp_store_mid->Ak
open Go.RowKit.Below renaming refl->Ae
open Go.Value renaming slice->Ai
open Nat renaming le_refl->Aa
set_option maxHeartbeats 8000000
set_option maxRecDepth 20000
set_option linter.unusedSimpArgs false
set_option linter.unusedVariables false
open Go.Proofs.Tryz
namespace Go.Proofs.YtpiohehijkpghacGreatDoor.Co
open Go.RowKit
open Hy
open Wi Od Re.Hy
open Gu.Hy (Tb tcs)
structure ComOk(s:Cr)(o:Dg):Prop where
 pc:U32 o.pc
 c:CmR o.c
 tb:Gu.TbOk s.tb
 len:s.coms.length<=100000
 nms:Nms s
 give:o.rd≠0->0<=o.old/\o.old<s.phys/\o.old∉s.free/\∀r,r<32->s.regs r≠o.old
 sto:o.c.many≠0->sts o.i=true/\o.c.many=stn o.i.op/\fits s.n o.c.pl (stn o.i.op)=true
theorem zp:(prog.info? 27).map (·.size)=some 35:=by kernel_rfl
theorem zfF(R:Nat->Int)(pc st ca:Int):(prog.info? 27).map (·.size)=some (rowOf (hat R pc st ca) 35).toList.length:=by
 rw[Af,zf]
 exact zp
theorem zcq(R:Nat->Int)(pc st ca:Int):(rowOf (hat R pc st ca) 35).all (·.oneCell')=true:=ja _ _ fun i _=>zbe _ _ _ _ i
theorem St.hart{N:Nat}{w:World}{b:Nat}{s:Cr}{L:Sls}(S:St N w b s L):w.rangeAt b 4 (rowOf (hat s.R s.pc s.st s.ca) 35).toList:=jx S.row (by omega) (zda s L)
theorem zaf{N:Nat}{w:World}{b:Nat}{s:Cr}{L:Sls}(S:St N w b s L)(o:Dg)(K:ComOk s o):
  Calls prog 52 #[.pointer (some ⟨b,0,none⟩),dgv o] w fun e w'=>e=.returned (.tuple #[])/\∃L',St N w' b (com1 mach s o) L'/\To b w L w' L':=by
 obtain⟨iC,hi,hz0,hz1,hz2⟩:=info_parts zpq
 obtain⟨r,hr⟩:∃r,r=com1 mach s o:=⟨_,rfl⟩
 rw[<-hr]
 have HR:Hid (r=com1 mach s o):=hr
 have HK:Hid (ComOk s o):=K
 obtain⟨E,hE⟩:∃E,E=(cC o.c).toList.toArray:=⟨_,rfl⟩
 have HE:Hid (E=(cC o.c).toList.toArray):=hE
 have HI:Hid ((prog.info? 68).map (·.size)=some E.size/\11=E.size/\E.all (·.oneCell')=true):=by rw[hE];exact⟨za,rfl,vK o.c⟩
 have hlC:=K.len
 clear hr hE K
 go_enter func52,ntmps52
 go_upto_region 1 with fail
 refine Wi.zj (Φ:=fun W=>Code.wp _ _ _ _ W) ?_
 intro V0 hV hVb
 have BV0:Hid (Bx V0 w.heap.size o):=hV
 have SV0:Hid (St N V0 b s L):=S.below hVb
 have TV0:Hid (To b w L V0 L):=ze L hVb
 have hzo:Hid (¬own b L w.heap.size):=fun h=>by have:=qN S h;omega
 clear hV hVb S
 generalize w.heap.size=z at*
 go_upto_region 2 with(first|(refine Ad rfl 68 _ rfl z 17 rfl (cC o.c).toList _ BV0.out.cm underlying68 rfl (vT o.c) ?_;rw[<-HE.out])|(refine wpList_store_row rfl 68 _ _ rfl _ _ rfl rfl 68 _ (heap_alloc_new _ _) HI.out.1 HI.out.2.1 HI.out.2.2 ?_;rw[World.setRow_alloc_new]))
 refine Wi.zj (Φ:=fun W=>Code.wp _ _ _ _ W) ?_
 intro V h1 hb
 have CV:Hid (Cb V V0.heap.size o.c):=by show _=_;rw[h1,HE.out]
 have BV:Hid (Bx V z o):=BV0.out.below hb
 have SV:Hid (St N V b s L):=SV0.out.below hb
 have TV:Hid (To b w L V L):=TV0.out.trans (ze L hb)
 have hpo:Hid (¬own b L V0.heap.size):=fun h=>by have:=qN SV0.out h;omega
 clear h1 hb BV0 SV0 TV0 HI HE
 generalize V0.heap.size=p at*
 have hnp:L.c.ownBlock≠some p:=fun h=>hpo.out (.inr (.inl h))
 obtain⟨a5,c5,ea⟩:=SV.out.its.ic.slice
 have kA:V.cell? ⟨b,3,none⟩=some (.slice a5 (s.coms.length) c5):=(zd SV.out.row (by omega)).trans (congrArg some ea)
 have HU:Hid (Us V 68 11 (.slice a5 (s.coms.length) c5) (s.coms.length) (flat cml s.coms)):=by have:=SV.out.its.ic;rw[ea]at this;exact this
 have hnb:(Ai a5 (s.coms.length) c5).ownBlock≠some b:=fun h=>(SV.out.apart.1 b (by rw[ea];exact h)).2.2 rfl
 have hlt0:∀g,(Ai a5 (s.coms.length) c5).ownBlock=some g->g<V.heap.size:=fun g h=>SV.out.its.lt (.inl (by rw[ea];exact h))
 refine zq (S:=fun w'=>w'.cell? ⟨b,3,none⟩=some (.slice a5 (s.coms.length) c5)/\w'.rangeAt p 0 ((cC o.c).toList)) [12] (by kernel_rfl) (⟨kA,zhX CV.out⟩) (fun hH=>?_)
 refine tU 0 (.pointer (some ⟨b,0,none⟩)) ?_;go_simp
 refine tU 1 (.pointer (some ⟨b,0,none⟩)) ?_;go_simp
 refine tU 2 (.pointer (some ⟨b,0,none⟩)) ?_;go_simp
 refine tU 3 (.pointer (some ⟨b,3,none⟩)) ?_;go_simp
 refine tU 4 (.pointer (some ⟨b,3,none⟩)) ?_;go_simp
 refine tA 5 (.slice a5 (s.coms.length) c5) ?_;go_simp
 refine tS 6 (.agg ((cC o.c).toList).toArray) rfl (Ab (by rfl) 68 _ rfl _ _ rfl ((cC o.c).toList) _ (fun wz hSw=>hSw.2) underlying68 rfl (vT _)) hH ?_;go_simp
 refine zC 7 rfl (fun K hK=>?_)
 go_simp
 refine hK.out _ _ (⟨jD _ (hH.1),zcd _ (hH.2)⟩) (fun hN=>?_)
 clear hK K hH
 have hH:=hN
 clear hN
 try go_simp
 refine zC 8 rfl (fun K hK=>?_)
 rw[if_pos (by rfl)]
 refine qP _ _ 30 rfl 68 iC _ 11 64 underlying30 hi hz0 hz1 hz2 rfl (by decide) _ (s.coms.length) _ rfl (HU.out.below ((Ae _ _).drew.alloc (Aa _) _)) V.heap.size ((cC o.c).toList) rfl rfl (fun j u hj=>jO (w:=V.drew) j u hj) (zc8 _) (by omega) (by omega) ?_
 intro v1 w1 hU1 hG1 hF1
 obtain⟨p1,c1,rfl⟩:=hU1.slice
 have fA:w1.frozen? ⟨b,3,none⟩=false:=frozen_of_row _ _ _ _ _ ((hG1.block b (by have:=SV.out.lt;simp;omega) (fun h=>hnb h.symm)).trans ((Below.heap_alloc _ _ _ SV.out.lt).trans SV.out.row))
 have HU1:Hid (Us w1 68 11 (.slice p1 ((s.coms.length)+1) c1) ((s.coms.length)+1) (flat cml s.coms++(cC o.c).toList)):=hU1
 have HG1:Hid (V.grownBy w1 L.c.ownBlock):=by rw[ea];exact qG (jr hG1 (fun g hg=>hlt0 g hg))
 have HF1:Hid (∀g,(Ai p1 ((s.coms.length)+1) c1).ownBlock=some g->L.c.ownBlock=some g\/V.heap.size<=g):=fun g hg=>(hF1 g hg).imp (fun h=>by rw[ea];exact h) (fun h=>Nat.le_trans (by simp) h)
 refine hK.out _ _ (⟨zae hG1 (hH.1) (hnb),zks hG1 (hH.2) (by rw[<-ea];exact hnp)⟩) (fun hN=>?_)
 clear hK K hH
 have hH:=hN
 clear hN
 try go_simp
 have cA:=hH.1
 clear hU1 hG1 hF1 HU hnb hlt0 kA
 refine tU 9 (.pointer (some ⟨b,0,none⟩)) ?_;go_simp
 refine tU 10 (.pointer (some ⟨b,3,none⟩)) ?_;go_simp
 refine tU 11 (.pointer (some ⟨b,3,none⟩)) ?_;go_simp
 refine zL 12 rfl (fun K hK=>?_)
 go_simp
 refine hK.out _ _ ?_
 clear hK K
 try go_simp
 refine zE (by kernel_rfl) ?_ _
 obtain⟨S1,T1⟩:=St.appC SV.out (o.c) HU1.out HG1.out HF1.out
 clear HU1 HG1 HF1 hH cA fA
 generalize w1.setCell ⟨b,3,none⟩ (.slice p1 ((s.coms.length)+1) c1)=W1 at*
 generalize Ai p1 ((s.coms.length)+1) c1=v1 at*
 have S2:Hid (St N W1 b {s with coms:=s.coms++[o.c]} {L with c:=v1}):=S1
 have T2:Hid (To b w L W1 {L with c:=v1}):=TV.out.trans T1
 have B2:Hid (Bx W1 z o):=BV.out.to T1 hzo.out
 have C2:Hid (Cb W1 p o.c):=CV.out.to T1 hpo.out
 have z2:Hid (¬own b {L with c:=v1} z):=BV.out.not T1 hzo.out
 have p2:Hid (¬own b {L with c:=v1} p):=CV.out.not T1 hpo.out
 clear S1 T1 SV TV BV CV hzo hpo hnp hlC
 generalize ({L with c:=v1}:Sls)=L2 at*
 have CB:Hid (∀W,Calls prog 66 #[.agg (rowOf (hat s.R s.pc s.st s.ca) 35),cvC o.c] W fun e w'=>e=.returned (.agg (rowOf (hat (updC s.R o.c) o.c.next o.c.st o.c.ca) 35))/\Below W.heap.size W w'):=fun W=>zlP s.R s.pc s.st s.ca o.c HK.out.c.rd W
 obtain⟨H2,hH2⟩:∃H2,H2=rowOf (hat (updC s.R o.c) o.c.next o.c.st o.c.ca) 35:=⟨_,rfl⟩
 rw[<-hH2]at CB
 have HH2:Hid (H2=rowOf (hat (updC s.R o.c) o.c.next o.c.st o.c.ca) 35):=hH2
 have HHI:Hid (H2.size=35/\(prog.info? 27).map (·.size)=some H2.size/\H2.all (·.oneCell')=true):=by rw[hH2];exact⟨zf _ _,by rw[zf];exact zp,zcq _ _ _ _⟩
 clear hH2
 go_upto_region 3 with fail
 refine zq (S:=fun w'=>w'.rangeAt b 4 ((rowOf (hat s.R s.pc s.st s.ca) 35).toList)/\w'.rangeAt p 0 ((cC o.c).toList)) [11] (by kernel_rfl) (⟨S2.out.hart,zhX C2.out⟩) (fun hH=>?_)
 refine tU 0 (.pointer (some ⟨b,0,none⟩)) ?_;go_simp
 refine tU 1 (.pointer (some ⟨b,0,none⟩)) ?_;go_simp
 refine tU 2 (.pointer (some ⟨b,0,none⟩)) ?_;go_simp
 refine tU 3 (.pointer (some ⟨b,3,none⟩)) ?_;go_simp
 refine tU 4 (.pointer (some ⟨b,4,none⟩)) ?_;go_simp
 refine tS 5 (.agg ((rowOf (hat s.R s.pc s.st s.ca) 35).toList).toArray) rfl (Ab (by rfl) 27 _ rfl _ _ rfl ((rowOf (hat s.R s.pc s.st s.ca) 35).toList) _ (fun wz hSw=>hSw.1) underlying27 rfl (zfF _ _ _ _)) hH ?_;go_simp
 refine tS 6 (.agg ((cC o.c).toList).toArray) rfl (Ab (by rfl) 68 _ rfl _ _ rfl ((cC o.c).toList) _ (fun wz hSw=>hSw.2) underlying68 rfl (vT _)) hH ?_;go_simp
 refine zC 7 rfl (fun K hK=>?_)
 go_simp
 refine(CB.out _).mono ?_
 rintro e V3 ⟨rfl,hk3⟩
 have HK3:Hid (Below W1.heap.size W1 V3):=zg hk3 (Aa _)
 go_wp2_with fail
 refine hK.out _ _ (⟨xg hk3 (hH.1),xg hk3 (hH.2)⟩) (fun hN=>?_)
 clear hK K hH
 have hH:=hN
 clear hN
 try go_simp
 have S3:Hid (St N V3 b {s with coms:=s.coms++[o.c]} L2):=S2.out.below HK3.out
 obtain⟨s4,t4⟩:=S3.out.setHart (updC s.R o.c) o.c.next o.c.st o.c.ca
 rw[<-HH2.out]at s4 t4
 have S4:Hid (St N (V3.setCells b 4 H2.toList) b {s with coms:=s.coms++[o.c],R:=updC s.R o.c,pc:=o.c.next,st:=o.c.st,ca:=o.c.ca} L2):=s4
 have T4:Hid (To b w L (V3.setCells b 4 H2.toList) L2):=(T2.out.trans (ze L2 HK3.out)).trans t4
 have B4:Hid (Bx (V3.setCells b 4 H2.toList) z o):=(B2.out.below HK3.out).to t4 z2.out
 have C4:Hid (Cb (V3.setCells b 4 H2.toList) p o.c):=(C2.out.below HK3.out).to t4 p2.out
 clear s4 t4
 refine tU 8 (.pointer (some ⟨b,0,none⟩)) ?_;go_simp
 refine tU 9 (.pointer (some ⟨b,3,none⟩)) ?_;go_simp
 refine tU 10 (.pointer (some ⟨b,4,none⟩)) ?_;go_simp
 refine zL 11 rfl (fun K hK=>?_)
 rw[if_pos (by rfl)]
 refine Ak 27 _ _ rfl b 4 (H2) rfl rfl (by rw[HHI.out.1];exact S3.out.there 4 35 (by omega)) (HHI.out.2.1) (HHI.out.2.2) ?_
 refine hK.out _ _ ?_
 clear hK K
 try go_simp
 refine zE (by kernel_rfl) ?_ _
 clear hH HK3 S3 S2 T2 B2 C2 CB HH2 HHI
 generalize V3.setCells b 4 H2.toList=V4 at*
 obtain⟨s4,hs4⟩:∃s4:Cr,s4={s with coms:=s.coms++[o.c],R:=updC s.R o.c,pc:=o.c.next,st:=o.c.st,ca:=o.c.ca}:=⟨_,rfl⟩
 have HR2:Hid (r={s4 with f:=stoC s4.f o.c,free:=if o.rd=0 then s4.free else s4.free++[o.old],tb:=learn mach s4.tb o}):=by show _=_;rw[HR.out,hs4];rfl
 rw[<-hs4]at S4
 have HK4:Hid (Nms s4/\Gu.TbOk s4.tb/\(o.rd≠0->0<=o.old/\o.old<s4.phys/\o.old∉s4.free/\∀r,r<32->s4.regs r≠o.old)/\(o.c.many≠0->sts o.i=true/\o.c.many=stn o.i.op/\fits s4.n o.c.pl (stn o.i.op)=true)):=by
  rw[hs4]
  exact⟨⟨HK.out.nms.low,HK.out.nms.high,HK.out.nms.dis⟩,HK.out.tb,HK.out.give,HK.out.sto⟩
 have HKC:Hid (U32 o.pc/\CmR o.c):=⟨HK.out.pc,HK.out.c⟩
 clear HR HK hs4
 have c7:V4.cell? ⟨p,7,none⟩=some (.int .i64 o.c.many):=qQ C4.out 7 rfl
 have hm0:=HKC.out.2.many
 by_cases hm:o.c.many=0
 ·have c7':V4.cell? ⟨p,7,none⟩=some (.int .i64 0):=by rw[c7,hm]
  have HR3:Hid (r={s4 with free:=if o.rd=0 then s4.free else s4.free++[o.old],tb:=learn mach s4.tb o}):=by
   show _=_
   rw[HR2.out]
   unfold stoC
   rw[hm]
   show({s4 with f:=sto s4.f o.c.pl.toNat o.c.data 0,free:=_,tb:=_}:Cr)=_
   rw[zi4]
  have HK5:Hid (Nms s4/\Gu.TbOk s4.tb/\(o.rd≠0->0<=o.old/\o.old<s4.phys/\o.old∉s4.free/\∀r,r<32->s4.regs r≠o.old)):=⟨HK4.out.1,HK4.out.2.1,HK4.out.2.2.1⟩
  clear c7 HR2 HK4 hm hm0 C4 p2
  obtain⟨k,hk⟩:∃k,k=o.rd:=⟨_,rfl⟩
  have c10:V4.cell? ⟨z,10,none⟩=some (.int .i64 (k:Int)):=zl B4.out 10 (by rw[hk];rfl)
  rw[<-hk]at HR3 HK5
  clear hk
  by_cases h0:k=0
  ·have c10':V4.cell? ⟨z,10,none⟩=some (.int .i64 0):=by rw[c10,h0];rfl
   have HR4:Hid (r={s4 with tb:=learn mach s4.tb o}):=by
    show _=_
    rw[HR3.out,if_pos h0]
   have CLn:Hid (Calls prog 80 #[.pointer (some ⟨b,0,none⟩),dgv o] V4 fun e w'=>e=.returned (.tuple #[])/\St N w' b r L2/\To b V4 L2 w' L2):=by rw[HR4.out];exact xC S4.out HK5.out.2.1 o HKC.out.1 HKC.out.2
   clear c10 h0 HR3 HR4 HK5 HKC
   go_wp2_with(refine Ad rfl 132 _ rfl z 0 rfl (dgl o) _ (yg B4.out) underlying132 rfl (zK o) ?_)
   refine CLn.out.mono ?_
   rintro e V9 ⟨rfl,u1,u2⟩
   have S9:Hid (St N V9 b r L2):=u1
   have T9:Hid (To b w L V9 L2):=T4.out.trans u2
   clear u1 u2 CLn
   go_wp2_with fail
   refine Ag (Ah rfl _ _ _) rfl ⟨rfl,L2,S9.out,T9.out⟩
  ·have hb0:((k:Int) != 0)=true:=by simp[h0]
   obtain⟨p2,p3,p4,p5⟩:=HK5.out.2.2 h0
   have CG:Hid (∀W,Below V4.heap.size V4 W->Calls prog 79 #[.agg (rowOf (mat s4.phys s4.regs L2.f) 34),.int .i64 o.old] W fun e w'=>(∃a c,e=.returned (.tuple #[.agg (rowOf (mat s4.phys s4.regs (.slice a (s4.free++[o.old]).length c)) 34),.bool true])/\Re.Lie w' a (s4.free++[o.old]).length c (fun i=>(s4.free++[o.old]).getD i 0)/\FarC W.heap.size a)/\Below W.heap.size W w'):=fun W hW=>by
    have:=zn7 S4.out HK5.out.1 o.old p2 p3 p4 p5 W hW
    rw[Aj]at this
    exact this
   obtain⟨fl,hfl⟩:∃fl,fl=s4.free++[o.old]:=⟨_,rfl⟩
   have HR4:Hid (r={s4 with free:=fl,tb:=learn mach s4.tb o}):=by
    show _=_
    rw[HR3.out,if_neg h0,hfl]
   rw[<-hfl]at CG
   have c12:V4.cell? ⟨z,12,none⟩=some (.int .i64 o.old):=zl B4.out 12 rfl
   have HTB:Hid (Gu.TbOk s4.tb):=HK5.out.2.1
   clear p2 p3 p4 p5 hfl h0 HR3 HK5
   go_upto_region 7 with fail
   refine zq (S:=fun w'=>w'.rangeAt b 107 (mpL s4 L2)/\w'.cell? ⟨z,12,none⟩=some (.int .i64 o.old)) [13] (by kernel_rfl) (⟨S4.out.names,c12⟩) (fun hH=>?_)
   refine tU 0 (.pointer (some ⟨b,0,none⟩)) ?_;go_simp
   refine tU 1 (.pointer (some ⟨b,0,none⟩)) ?_;go_simp
   refine tU 2 (.pointer (some ⟨b,0,none⟩)) ?_;go_simp
   refine tU 3 (.pointer (some ⟨b,107,none⟩)) ?_;go_simp
   refine tS 4 (.agg (mpL s4 L2).toArray) rfl (Ab (by rfl) 59 _ rfl _ _ rfl (mpL s4 L2) _ (fun wz hSw=>hSw.1) underlying59 rfl (jb _ _ _)) hH ?_;go_simp
   refine tU 5 (.pointer (some ⟨z,12,none⟩)) ?_;go_simp
   refine tB 6 (.int .i64 o.old) ?_;go_simp
   refine zC 7 rfl (fun K hK=>?_)
   go_simp
   refine(CG.out _ ((Ae _ _).drew)).mono ?_
   rintro e V7 ⟨⟨a7,c7,rfl,hl7,hf7⟩,hk7⟩
   have HK7:Hid (Below V4.heap.size V4 V7):=zg hk7 (Aa _)
   have HL7:Hid (Re.Lie V7 a7 fl.length c7 (fun i=>fl.getD i 0)/\FarC V4.heap.size a7):=⟨hl7,hf7⟩
   clear hl7 hf7
   go_wp2_with fail
   refine hK.out _ _ (⟨xg hk7 (hH.1),zn hk7 (hH.2)⟩) (fun hN=>?_)
   clear hK K hH
   have hH:=hN
   clear hN
   try go_simp
   have S7:Hid (St N V7 b s4 L2):=S4.out.below HK7.out
   obtain⟨s8,t8⟩:=S7.out.setNames s4.regs HL7.out.1 (qV S4.out (Aa _) HL7.out.2)
   have S8:Hid (St N (V7.setCells b 107 (rowOf (mat s4.phys s4.regs (.slice a7 fl.length c7)) 34).toList) b {s4 with free:=fl} {L2 with f:=.slice a7 fl.length c7}):=s8
   have T8:Hid (To b w L (V7.setCells b 107 (rowOf (mat s4.phys s4.regs (.slice a7 fl.length c7)) 34).toList) {L2 with f:=.slice a7 fl.length c7}):=(T4.out.trans (ze L2 HK7.out)).trans t8
   have B8:Hid (Bx (V7.setCells b 107 (rowOf (mat s4.phys s4.regs (.slice a7 fl.length c7)) 34).toList) z o):=(B4.out.below HK7.out).to t8 z2.out
   clear s8 t8
   refine tU 8 (.tuple #[.agg (rowOf (mat s4.phys s4.regs (.slice a7 fl.length c7)) 34),.bool true]) ?_;go_simp
   refine tU 9 (.agg (rowOf (mat s4.phys s4.regs (.slice a7 fl.length c7)) 34)) ?_;go_simp
   refine tU 10 (.bool true) ?_;go_simp
   refine tU 11 (.pointer (some ⟨b,0,none⟩)) ?_;go_simp
   refine tU 12 (.pointer (some ⟨b,107,none⟩)) ?_;go_simp
   refine zL 13 rfl (fun K hK=>?_)
   rw[if_pos (by rfl)]
   refine Ak 59 _ _ rfl b 107 (rowOf (mat s4.phys s4.regs (.slice a7 fl.length c7)) 34) rfl rfl (by rw[zf];exact S7.out.there 107 34 (by omega)) (by have:=jb s4.phys s4.regs (.slice a7 fl.length c7);rw[Af]at this;exact this) (kv _ _ _ _ _) ?_
   refine hK.out _ _ ?_
   clear hK K
   try go_simp
   refine zE (by kernel_rfl) ?_ _
   clear hH
   have HK7c:Hid (Gu.TbOk s4.tb):=HTB.out
   generalize V7.setCells b 107 (rowOf (mat s4.phys s4.regs (.slice a7 fl.length c7)) 34).toList=V8 at*
   generalize ({L2 with f:=.slice a7 fl.length c7}:Sls)=L8 at*
   have CLn:Hid (Calls prog 80 #[.pointer (some ⟨b,0,none⟩),dgv o] V8 fun e w'=>e=.returned (.tuple #[])/\St N w' b r L8/\To b V8 L8 w' L8):=by rw[HR4.out];exact xC S8.out HTB.out o HKC.out.1 HKC.out.2
   clear HR4 HKC HTB HK7c
   go_wp2_with(refine Ad rfl 132 _ rfl z 0 rfl (dgl o) _ (yg B8.out) underlying132 rfl (zK o) ?_)
   refine CLn.out.mono ?_
   rintro e V9 ⟨rfl,u1,u2⟩
   have S9:Hid (St N V9 b r L8):=u1
   have T9:Hid (To b w L V9 L8):=T8.out.trans u2
   clear u1 u2 CLn
   go_wp2_with fail
   refine Ag (Ah rfl _ _ _) rfl ⟨rfl,L8,S9.out,T9.out⟩
 ·have hgt:(0:Int)<o.c.many:=by omega
  obtain⟨q1,q2,q3⟩:=HK4.out.2.2.2 hm
  obtain⟨pm,cm,em,hB⟩:=S4.out.its.im
  have k39:V4.cell? ⟨b,39,none⟩=some (.slice pm s4.n cm):=(zd S4.out.row (by omega)).trans (congrArg some em)
  have CS:Hid (∀W,Below V4.heap.size V4 W->Calls prog 78 #[.slice pm s4.n cm,.int .i64 o.i.op,.int .u32 o.c.pl,.int .u32 o.c.data] W fun e w'=>(∃h cap,e=.returned (.tuple #[.slice (some ⟨h,0,none⟩) s4.n cap,.bool true])/\Bys w' (some ⟨h,0,none⟩) s4.n cap (stoC s4.f o.c)/\W.heap.size<=h)/\Below W.heap.size W w'):=fun W hW=>by
   have:=zn2 hB o.i o.c.pl o.c.data q1 HKC.out.2.pl HKC.out.2.data q3 W hW
   rw[<-q2]at this
   exact this
  have c2:V4.cell? ⟨z,2,none⟩=some (.int .i64 o.i.op):=zl B4.out 2 rfl
  have c6:V4.cell? ⟨p,6,none⟩=some (.int .u32 o.c.pl):=qQ C4.out 6 rfl
  have c8:V4.cell? ⟨p,8,none⟩=some (.int .u32 o.c.data):=qQ C4.out 8 rfl
  have HK4b:Hid (Nms s4/\Gu.TbOk s4.tb/\(o.rd≠0->0<=o.old/\o.old<s4.phys/\o.old∉s4.free/\∀r,r<32->s4.regs r≠o.old)):=⟨HK4.out.1,HK4.out.2.1,HK4.out.2.2.1⟩
  clear q1 q2 q3 hB em HK4 hm hm0
  go_upto_region 5 with fail
  refine zq (S:=fun w'=>w'.cell? ⟨b,39,none⟩=some (.slice pm s4.n cm)/\w'.cell? ⟨z,2,none⟩=some (.int .i64 o.i.op)/\w'.cell? ⟨p,6,none⟩=some (.int .u32 o.c.pl)/\w'.cell? ⟨p,8,none⟩=some (.int .u32 o.c.data)) [20] (by kernel_rfl) (⟨k39,c2,c6,c8⟩) (fun hH=>?_)
  refine tU 0 (.pointer (some ⟨b,0,none⟩)) ?_;go_simp
  refine tU 1 (.pointer (some ⟨b,0,none⟩)) ?_;go_simp
  refine tU 2 (.pointer (some ⟨b,0,none⟩)) ?_;go_simp
  refine tU 3 (.pointer (some ⟨b,3,none⟩)) ?_;go_simp
  refine tU 4 (.pointer (some ⟨b,39,none⟩)) ?_;go_simp
  refine tA 5 (.slice pm s4.n cm) ?_;go_simp
  refine tU 6 (.pointer (some ⟨z,2,none⟩)) ?_;go_simp
  refine tU 7 (.pointer (some ⟨z,2,none⟩)) ?_;go_simp
  refine tS 8 (.int .i64 o.i.op) rfl (Or.inl ⟨by rfl,by intro wz hSw;have hc:=hSw.2.1;go_simp⟩) hH ?_;go_simp
  refine tU 9 (.pointer (some ⟨p,6,none⟩)) ?_;go_simp
  refine tS 10 (.int .u32 o.c.pl) rfl (Or.inl ⟨by rfl,by intro wz hSw;have hc:=hSw.2.2.1;go_simp⟩) hH ?_;go_simp
  refine tU 11 (.pointer (some ⟨p,8,none⟩)) ?_;go_simp
  refine tS 12 (.int .u32 o.c.data) rfl (Or.inl ⟨by rfl,by intro wz hSw;have hc:=hSw.2.2.2;go_simp⟩) hH ?_;go_simp
  refine zC 13 rfl (fun K hK=>?_)
  go_simp
  refine(CS.out _ ((Ae _ _).drew)).mono ?_
  rintro e V5 ⟨⟨h5,d5,rfl,hB5,hh5⟩,hk5⟩
  have HK5:Hid (Below V4.heap.size V4 V5):=zg hk5 (Aa _)
  have HB5:Hid (Bys V5 (some ⟨h5,0,none⟩) s4.n d5 (stoC s4.f o.c)/\V4.heap.size<=h5):=⟨hB5,hh5⟩
  clear hB5 hh5
  go_wp2_with fail
  refine hK.out _ _ (⟨zn hk5 (hH.1),zn hk5 (hH.2.1),zn hk5 (hH.2.2.1),zn hk5 (hH.2.2.2)⟩) (fun hN=>?_)
  clear hK K hH
  have hH:=hN
  clear hN
  try go_simp
  have S5:Hid (St N V5 b s4 L2):=S4.out.below HK5.out
  have cA:=hH.1
  have fA:=S5.out.frozen 39
  refine tU 14 (.tuple #[.slice (some ⟨h5,0,none⟩) s4.n d5,.bool true]) ?_;go_simp
  refine tU 15 (.slice (some ⟨h5,0,none⟩) s4.n d5) ?_;go_simp
  refine tU 16 (.bool true) ?_;go_simp
  refine tU 17 (.pointer (some ⟨b,0,none⟩)) ?_;go_simp
  refine tU 18 (.pointer (some ⟨b,3,none⟩)) ?_;go_simp
  refine tU 19 (.pointer (some ⟨b,39,none⟩)) ?_;go_simp
  refine zL 20 rfl (fun K hK=>?_)
  go_simp
  refine hK.out _ _ ?_
  clear hK K
  try go_simp
  refine zE (by kernel_rfl) ?_ _
  obtain⟨s6,t6⟩:=S5.out.setMem HB5.out.1 (fun y hy h=>by have e:=Option.some.inj hy;subst e;have h1:h5<V4.heap.size:=qN S4.out h;have:=HB5.out.2;omega)
  have S6:Hid (St N (V5.setCell ⟨b,39,none⟩ (.slice (some ⟨h5,0,none⟩) s4.n d5)) b {s4 with f:=stoC s4.f o.c} {L2 with m:=.slice (some ⟨h5,0,none⟩) s4.n d5}):=s6
  have T6:Hid (To b w L (V5.setCell ⟨b,39,none⟩ (.slice (some ⟨h5,0,none⟩) s4.n d5)) {L2 with m:=.slice (some ⟨h5,0,none⟩) s4.n d5}):=(T4.out.trans (ze L2 HK5.out)).trans t6
  have B6:Hid (Bx (V5.setCell ⟨b,39,none⟩ (.slice (some ⟨h5,0,none⟩) s4.n d5)) z o):=(B4.out.below HK5.out).to t6 z2.out
  have z6:Hid (¬own b {L2 with m:=.slice (some ⟨h5,0,none⟩) s4.n d5} z):=z2.out
  clear s6 t6 hH HB5 HK5 S5 S4 T4 B4 C4 z2 p2 cA fA k39 c2 c6 c8 c7 CS
  generalize V5.setCell ⟨b,39,none⟩ (.slice (some ⟨h5,0,none⟩) s4.n d5)=V6 at*
  generalize ({L2 with m:=.slice (some ⟨h5,0,none⟩) s4.n d5}:Sls)=L6 at*
  obtain⟨s5,hs5⟩:∃s5:Cr,s5={s4 with f:=stoC s4.f o.c}:=⟨_,rfl⟩
  have HR3:Hid (r={s5 with free:=if o.rd=0 then s5.free else s5.free++[o.old],tb:=learn mach s5.tb o}):=by show _=_;rw[HR2.out,hs5]
  have HK5:Hid (Nms s5/\Gu.TbOk s5.tb/\(o.rd≠0->0<=o.old/\o.old<s5.phys/\o.old∉s5.free/\∀r,r<32->s5.regs r≠o.old)):=by
   rw[hs5]
   exact⟨⟨HK4b.out.1.low,HK4b.out.1.high,HK4b.out.1.dis⟩,HK4b.out.2.1,HK4b.out.2.2⟩
  rw[<-hs5]at S6
  clear hs5 HK4b HR2
  obtain⟨k,hk⟩:∃k,k=o.rd:=⟨_,rfl⟩
  have c10:V6.cell? ⟨z,10,none⟩=some (.int .i64 (k:Int)):=zl B6.out 10 (by rw[hk];rfl)
  rw[<-hk]at HR3 HK5
  clear hk
  by_cases h0:k=0
  ·have c10':V6.cell? ⟨z,10,none⟩=some (.int .i64 0):=by rw[c10,h0];rfl
   have HR4:Hid (r={s5 with tb:=learn mach s5.tb o}):=by
    show _=_
    rw[HR3.out,if_pos h0]
   have CLn:Hid (Calls prog 80 #[.pointer (some ⟨b,0,none⟩),dgv o] V6 fun e w'=>e=.returned (.tuple #[])/\St N w' b r L6/\To b V6 L6 w' L6):=by rw[HR4.out];exact xC S6.out HK5.out.2.1 o HKC.out.1 HKC.out.2
   clear c10 h0 HR3 HR4 HK5 HKC
   go_wp2_with(refine Ad rfl 132 _ rfl z 0 rfl (dgl o) _ (yg B6.out) underlying132 rfl (zK o) ?_)
   refine CLn.out.mono ?_
   rintro e V9 ⟨rfl,u1,u2⟩
   have S9:Hid (St N V9 b r L6):=u1
   have T9:Hid (To b w L V9 L6):=T6.out.trans u2
   clear u1 u2 CLn
   go_wp2_with fail
   refine Ag (Ah rfl _ _ _) rfl ⟨rfl,L6,S9.out,T9.out⟩
  ·have hb0:((k:Int) != 0)=true:=by simp[h0]
   obtain⟨p2,p3,p4,p5⟩:=HK5.out.2.2 h0
   have CG:Hid (∀W,Below V6.heap.size V6 W->Calls prog 79 #[.agg (rowOf (mat s5.phys s5.regs L6.f) 34),.int .i64 o.old] W fun e w'=>(∃a c,e=.returned (.tuple #[.agg (rowOf (mat s5.phys s5.regs (.slice a (s5.free++[o.old]).length c)) 34),.bool true])/\Re.Lie w' a (s5.free++[o.old]).length c (fun i=>(s5.free++[o.old]).getD i 0)/\FarC W.heap.size a)/\Below W.heap.size W w'):=fun W hW=>by
    have:=zn7 S6.out HK5.out.1 o.old p2 p3 p4 p5 W hW
    rw[Aj]at this
    exact this
   obtain⟨fl,hfl⟩:∃fl,fl=s5.free++[o.old]:=⟨_,rfl⟩
   have HR4:Hid (r={s5 with free:=fl,tb:=learn mach s5.tb o}):=by
    show _=_
    rw[HR3.out,if_neg h0,hfl]
   rw[<-hfl]at CG
   have c12:V6.cell? ⟨z,12,none⟩=some (.int .i64 o.old):=zl B6.out 12 rfl
   have HTB:Hid (Gu.TbOk s5.tb):=HK5.out.2.1
   clear p2 p3 p4 p5 hfl h0 HR3 HK5
   go_upto_region 7 with fail
   refine zq (S:=fun w'=>w'.rangeAt b 107 (mpL s5 L6)/\w'.cell? ⟨z,12,none⟩=some (.int .i64 o.old)) [13] (by kernel_rfl) (⟨S6.out.names,c12⟩) (fun hH=>?_)
   refine tU 0 (.pointer (some ⟨b,0,none⟩)) ?_;go_simp
   refine tU 1 (.pointer (some ⟨b,0,none⟩)) ?_;go_simp
   refine tU 2 (.pointer (some ⟨b,0,none⟩)) ?_;go_simp
   refine tU 3 (.pointer (some ⟨b,107,none⟩)) ?_;go_simp
   refine tS 4 (.agg (mpL s5 L6).toArray) rfl (Ab (by rfl) 59 _ rfl _ _ rfl (mpL s5 L6) _ (fun wz hSw=>hSw.1) underlying59 rfl (jb _ _ _)) hH ?_;go_simp
   refine tU 5 (.pointer (some ⟨z,12,none⟩)) ?_;go_simp
   refine tB 6 (.int .i64 o.old) ?_;go_simp
   refine zC 7 rfl (fun K hK=>?_)
   go_simp
   refine(CG.out _ ((Ae _ _).drew)).mono ?_
   rintro e V7 ⟨⟨a7,c7,rfl,hl7,hf7⟩,hk7⟩
   have HK7:Hid (Below V6.heap.size V6 V7):=zg hk7 (Aa _)
   have HL7:Hid (Re.Lie V7 a7 fl.length c7 (fun i=>fl.getD i 0)/\FarC V6.heap.size a7):=⟨hl7,hf7⟩
   clear hl7 hf7
   go_wp2_with fail
   refine hK.out _ _ (⟨xg hk7 (hH.1),zn hk7 (hH.2)⟩) (fun hN=>?_)
   clear hK K hH
   have hH:=hN
   clear hN
   try go_simp
   have S7:Hid (St N V7 b s5 L6):=S6.out.below HK7.out
   obtain⟨s8,t8⟩:=S7.out.setNames s5.regs HL7.out.1 (qV S6.out (Aa _) HL7.out.2)
   have S8:Hid (St N (V7.setCells b 107 (rowOf (mat s5.phys s5.regs (.slice a7 fl.length c7)) 34).toList) b {s5 with free:=fl} {L6 with f:=.slice a7 fl.length c7}):=s8
   have T8:Hid (To b w L (V7.setCells b 107 (rowOf (mat s5.phys s5.regs (.slice a7 fl.length c7)) 34).toList) {L6 with f:=.slice a7 fl.length c7}):=(T6.out.trans (ze L6 HK7.out)).trans t8
   have B8:Hid (Bx (V7.setCells b 107 (rowOf (mat s5.phys s5.regs (.slice a7 fl.length c7)) 34).toList) z o):=(B6.out.below HK7.out).to t8 z6.out
   clear s8 t8
   refine tU 8 (.tuple #[.agg (rowOf (mat s5.phys s5.regs (.slice a7 fl.length c7)) 34),.bool true]) ?_;go_simp
   refine tU 9 (.agg (rowOf (mat s5.phys s5.regs (.slice a7 fl.length c7)) 34)) ?_;go_simp
   refine tU 10 (.bool true) ?_;go_simp
   refine tU 11 (.pointer (some ⟨b,0,none⟩)) ?_;go_simp
   refine tU 12 (.pointer (some ⟨b,107,none⟩)) ?_;go_simp
   refine zL 13 rfl (fun K hK=>?_)
   rw[if_pos (by rfl)]
   refine Ak 59 _ _ rfl b 107 (rowOf (mat s5.phys s5.regs (.slice a7 fl.length c7)) 34) rfl rfl (by rw[zf];exact S7.out.there 107 34 (by omega)) (by have:=jb s5.phys s5.regs (.slice a7 fl.length c7);rw[Af]at this;exact this) (kv _ _ _ _ _) ?_
   refine hK.out _ _ ?_
   clear hK K
   try go_simp
   refine zE (by kernel_rfl) ?_ _
   clear hH
   have HK7c:Hid (Gu.TbOk s5.tb):=HTB.out
   generalize V7.setCells b 107 (rowOf (mat s5.phys s5.regs (.slice a7 fl.length c7)) 34).toList=V8 at*
   generalize ({L6 with f:=.slice a7 fl.length c7}:Sls)=L8 at*
   have CLn:Hid (Calls prog 80 #[.pointer (some ⟨b,0,none⟩),dgv o] V8 fun e w'=>e=.returned (.tuple #[])/\St N w' b r L8/\To b V8 L8 w' L8):=by rw[HR4.out];exact xC S8.out HTB.out o HKC.out.1 HKC.out.2
   clear HR4 HKC HTB HK7c
   go_wp2_with(refine Ad rfl 132 _ rfl z 0 rfl (dgl o) _ (yg B8.out) underlying132 rfl (zK o) ?_)
   refine CLn.out.mono ?_
   rintro e V9 ⟨rfl,u1,u2⟩
   have S9:Hid (St N V9 b r L8):=u1
   have T9:Hid (To b w L V9 L8):=T8.out.trans u2
   clear u1 u2 CLn
   go_wp2_with fail
   refine Ag (Ah rfl _ _ _) rfl ⟨rfl,L8,S9.out,T9.out⟩
theorem zfG(a:Option Addr)(n c:Nat)(hn:n<=1000000)(l:List Int)(x:Int)(w:World)(hL:Hid (LC w a n c 1 (ics l))):
  Calls prog 82 #[.slice a n c,.int .i64 x] w fun e w'=>(∃r:Int,e=.returned (.int .i64 r)/\decide (0<=r)=decide (x∈l))/\Below w.heap.size w w':=by
 have hlen:Hid (l.length=n):=by have:=hL.out.len;rw[jk]at this;show _=_;omega
 go_enter func82,ntmps82
 go_wp2_with fail
 go_loopw [8] (fun i wr=>∃k:Nat,k<=n/\i=.int .i64 (k:Int)/\Hid (x∉l.take k)/\Hid (Below w.heap.size w wr))
  (fun i _=>n-(intOf i).toNat)
 case atStart=>exact⟨0,by omega,rfl,(fun h=>by simp at h),Ae _ _⟩
 case round=>
  obtain⟨k,hk,rfl,HX,HB⟩:=hrel
  by_cases hlt:k<n
  ·obtain⟨q,hq⟩:∃q,l[k]?=some q:=⟨_,List.getElem?_eq_getElem (by rw[hlen.out];exact hlt)⟩
   obtain⟨bb,o,rfl,hb,hc⟩:=hL.out.sure (by omega)
   have ck:wr.cell? ⟨bb,o+k,none⟩=some (.int .i64 q):=(HB.out.cell (p:=⟨bb,o+k,none⟩) hb).trans (by simpa using hc k _ (jR hq))
   have HQ:Hid (l[k]?=some q):=hq
   clear hc hq
   by_cases e:x=q
   ·subst e
    go_wp2_with fail
    go_ret
    refine⟨⟨_,rfl,?_⟩,HB.out⟩
    rw[decide_eq_true (by omega),decide_eq_true (List.mem_of_getElem? HQ.out)]
   ·have e':(x==q)=false:=beq_eq_false_iff_ne.2 e
    have HN:Hid (x∉l.take (k+1)):=by
     show¬_
     rw[List.take_add_one,HQ.out]
     intro h
     rcases List.mem_append.1 h with h|h
     ·exact HX.out h
     ·simp at h;exact e h
    clear e
    go_wp2_with fail
    exact⟨⟨k+1,by omega,by go_num,HN,HB⟩,by simp[intOf];omega⟩
  ·have hkn:k=n:=by omega
   subst hkn
   have HN:Hid (x∉l):=by
    show¬_
    have:=HX.out
    rw[List.take_of_length_le (by rw[hlen.out];exact Aa _)]at this
    exact this
   go_wp2_with fail
   go_ret
   refine⟨⟨_,rfl,?_⟩,HB.out⟩
   rw[decide_eq_false (by omega),decide_eq_false HN.out]
theorem zbm(a:Option Addr)(n c:Nat)(hn:n<=1000000)(l:List Int)(x:Int)(w:World)(hL:Hid (LC w a n c 1 (ics l))):
  Calls prog 55 #[.slice a n c,.int .i64 x] w fun e w'=>e=.returned (.bool (decide (x∈l)))/\Below w.heap.size w w':=by
 have C:=zfG a n c hn l x w hL
 go_enter func55,ntmps55
 go_wp2_with fail
 refine C.mono ?_
 rintro e w' ⟨⟨r,rfl,hr⟩,hb⟩
 have HR:Hid (decide (0<=r)=decide (x∈l)):=hr
 clear hr
 go_wp2_with fail
 go_ret
 exact⟨by rw[<-HR.out];rfl,hb⟩
theorem zaz:∀args w,(callFunc 54 args).run prog w=.ok (.enter 54 args) w:=enters_of func54 (by kernel_rfl) rfl
theorem ym(B:Nat)(a:Option Addr)(n c:Nat)(hn:n<=1000000)(l:List Int)(W:World)(o:Ac)(hc':W.cell? ⟨B,0,none⟩=some (.slice a n c))(hL:LC W a n c 1 (ics l)):Calls prog 54 #[acv o,.pointer (some ⟨B,0,none⟩)] W fun e w'=>e=.returned (.bool (decide (o.seq∈l)))/\Below W.heap.size W w':=by
 have hB':B<W.heap.size:=World.block_lt_of_cell? _ _ hc'
 have C:Hid (∀V,Below W.heap.size W V->Calls prog 55 #[.slice a n c,.int .i64 o.seq] V fun e w'=>e=.returned (.bool (decide (o.seq∈l)))/\Below V.heap.size V w'):=fun V hV=>zbm a n c hn l o.seq V (hL.below (Aa _) hV)
 obtain⟨d,hd⟩:∃d,d=decide (o.seq∈l):=⟨_,rfl⟩
 rw[<-hd]at C⊢
 clear hd hL
 go_enter func54,ntmps54
 go_wp2_with fail
 refine(C.out _ ((Ae _ _).alloc (Aa _) _)).mono ?_
 rintro e w' ⟨rfl,hb⟩
 have HB:Hid (Below W.heap.size W w'):=((Ae _ _).alloc (Aa _) _).trans (hb.mono (by simp))
 clear hb C
 go_wp2_with fail
 go_ret
 exact⟨rfl,HB.out⟩
end Go.Proofs.YtpiohehijkpghacGreatDoor.Co
