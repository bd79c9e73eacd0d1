/- A core that starts one: the program. -/
import Derived.Test.YtpiohehijkpghacGreatDoorD24
open Go renaming results_none->Aa,bodyPost_end->Ab,wpList_load_row->Af,wpList_load_mid->Ai,yieldsIf_load_mid->Am,wpList_store_row->An
open Go.Code renaming wp->Ap
open Go.RowKit.Below renaming refl->Ao
open Go.World renaming setRow_alloc_new->Ah
open Int renaming eq_ofNat_of_zero_le->Ag
open List renaming getElem?_eq_some_iff->Ad,mem_append_left->Aj
open Nat renaming add_assoc->Ae,le_refl->Ak
set_option maxHeartbeats 8000000
set_option maxRecDepth 20000
set_option linter.unusedSimpArgs false
set_option linter.unusedVariables false
open Go.Proofs.Tryz
namespace Go.Proofs.YtpiohehijkpghacGreatDoor.Co
open Go.RowKit
open Hy
open Wi Od Re.Hy
open Gu.Hy (Tb tcs)
theorem zmn{s:Cr}{m:Nat->Int}(h:BackOk s m)(hb:s.bck<10000000)(e pc:Int):BackOk (Co.back s e pc) m:=by
 obtain⟨l1,l2,hu,h1,h2⟩:=xt e h.bk.rise
 have hl:=h.lenU
 have hd:=h.dis
 have hr:=h.bk.rise
 have ho:=h.bk.olds
 have hrd:=h.rd
 rw[hu]at hl hd hr ho hrd
 rw[qf,List.append_assoc]at hd
 rw[zaY h.bk hu e pc h1 h2]
 refine⟨⟨(xq.1 ho).1,rfl,(zw.1 hr).1,rfl⟩,hd,fun o ho=>hrd o (Aj _ ho),h.low,h.high,?_,?_,?_,?_⟩
 ·show l1.length<=_
  rw[List.length_append]at hl
  omega
 ·have:=h.lenA
  have:=List.length_filter_le (fun a:Ac=>!decide (e<=a.seq)) s.asked
  show(s.asked.filter _).length<=_
  omega
 ·have:=h.bck0
  show 0<=if l2=[]then s.bck else s.bck+1
  split<;>omega
 ·have:=h.bck1
  show(if l2=[]then s.bck else s.bck+1)<=_
  split<;>omega
theorem zhY{s:Cr}{m:Nat->Int}{q:Int}{c:Cm}(h:SetOk s m q c)(hb:s.bck<10000000):BackOk (settle s q c) m:=by
 have hk:(setA s.asked q (stA q c)).length<=10000000:=by rw[zez];exact h.back.lenA
 unfold settle
 simp only[]
 split
 ·exact h.back.asks hk
 ·exact zmn (h.back.asks hk) hb _ _
theorem zmo{s:Cr}{m:Nat->Int}(h:BackOk s m)(o:Dg)(c:Cm):BackOk (qX s o c) m:=by
 rw[jU]
 exact⟨⟨h.bk.olds,h.bk.reg,h.bk.rise,h.bk.slo⟩,h.dis,h.rd,h.low,h.high,h.lenU,h.lenA,h.bck0,h.bck1⟩
def fin0(s:Cr)(o:Dg)(c:Cm):Cr:={s with under:=putO s.under o.seq (fun o=>{o with st:=2,c:=c}),slots:=donS s.slots o.seq}
theorem zhZ(s:Cr)(o:Dg)(c:Cm):fin1 s o c=if sts o.i then settle (fin0 s o c) o.seq c else fin0 s o c:=rfl
theorem zh0{K:Int}{s:Cr}{m:Nat->Int}(A:Al mach K s m)(hK:K<=9000000){l1 l2:List Dg}{o:Dg}(hu:s.under=l1++o::l2)(h2:o.st≠2)(c:Cm):BackOk (fin0 s o c) m:=by
 have hr:Rise (l1++o::l2):=hu▸A.inv.rise
 have hun:putO s.under o.seq (fun o=>{o with st:=2,c:=c})=l1++{o with st:=2,c:=c}::l2:=by rw[hu];exact vt hr _
 have hsl:donS s.slots o.seq=(l1++{o with st:=2,c:=c}::l2).map slot:=by
  rw[A.inv.slo,hu]
  exact zcS hr (by show(o.seq,decide ((2:Int)=2))=_;rfl)
 have hmE:mE m (l1++{o with st:=2,c:=c}::l2)=s.regs:=by
  rw[<-A.inv.reg,hu,ko,ko]
  exact zgN rfl rfl
 have hol:Olds m (l1++o::l2):=vr (hu▸A.inv.ch)
 have htos:tos (l1++{o with st:=2,c:=c}::l2)=tos s.under:=by rw[hu,qf,qf];rfl
 have hlen:=A.len
 rw[hu]at hlen
 have h3:=A.rg.lenA
 have h4:=A.rg.bck
 unfold fin0
 rw[hun,hsl]
 refine⟨⟨zaZ hol rfl rfl rfl,hmE,kq hr rfl,rfl⟩,?_,fun q hq=>?_,A.low,A.rg.phys,?_,?_,A.bck,?_⟩
 ·show Dis s.phys m (tos (l1++_::l2)++s.free)
  rw[htos]
  exact A.inv.dis
 ·have hrd:=zd8 zM A.inv.ch
  rw[hu]at hrd
  rcases List.mem_append.1 hq with h|h
  ·exact hrd q (Aj _ h)
  ·rcases List.mem_cons.1 h with h|h
   ·rw[h];exact hrd o (by simp)
   ·exact hrd q (List.mem_append_right _ (List.mem_cons_of_mem _ h))
 ·simp at hlen⊢
  omega
 ·show s.asked.length<=_
  omega
 ·show s.bck<=_
  omega
theorem zeE{K:Int}{s:Cr}{m:Nat->Int}(A:Al mach K s m)(hK:K<=9000000){l1 l2:List Dg}{o:Dg}(hu:s.under=l1++o::l2)(h2:o.st≠2){c:Cm}(hc:CmR c)(hs:sts o.i=true):SetOk (fin0 s o c) m o.seq c:=by
 have ho:o∈s.under:=by rw[hu];simp
 refine⟨zh0 A hK hu h2 c,A.uq,A.rg.ask,⟨entA o,A.inv.ask.sto o ho hs,?_⟩,fun a ha=>?_,hc⟩
 ·unfold entA
  rw[if_neg h2]
  simp[st0]
 ·obtain⟨p,hp,e,_⟩:=A.inv.ask.of a ha
  refine⟨if p.seq=o.seq then{p with st:=2,c:=c}else p,List.mem_map.2 ⟨p,hp,rfl⟩,?_⟩
  rw[e]
  split<;>rfl
theorem zmp{K:Int}{s:Cr}{m:Nat->Int}(A:Al mach K s m)(hK:K<=9000000){l1 l2:List Dg}{o:Dg}(hu:s.under=l1++o::l2)(h2:o.st≠2){c:Cm}(hc:CmR c):BackOk (fin1 s o c) m:=by
 have h4:=A.rg.bck
 rw[zhZ]
 split
 ·rename_i hs
  exact zhY (zeE A hK hu h2 hc hs) (by show s.bck<_;omega)
 ·exact zh0 A hK hu h2 c
theorem zjO{s:Cr}{l1 l2:List Dg}{o:Dg}(hu:s.under=l1++o::l2)(hr:Rise s.under)(c:Cm):{({s with under:=s.under.set l1.length {o with st:=2,c:=c}}:Cr)with slots:=donS s.slots o.seq}=fin0 s o c:=by
 unfold fin0
 rw[(zdo hu hr (fun o=>{o with st:=2,c:=c})).1]
theorem zjP{K:Int}{s:Cr}{m:Nat->Int}(A:Al mach K s m){o:Dg}(ho:o∈s.under){c:Cm}(hc:CmIs s.n o.i o.pc c):c.rd≠0->0<=o.to/\o.to<96:=fun h=>by
 obtain⟨l1,l2,hu,hloc⟩:=xb A.inv.ch ho
 obtain⟨_,_,_,h4⟩:=kD zM A.inv ho A.rg.phys
 refine h4 ?_
 rw[hloc.rd]
 by_cases h0:c.st=0
 ·rw[<-hc.gives h0];exact h
 ·exact absurd (hc.stops h0).2.1 h
theorem zjQ{l:List Dg}{k:Nat}(x y:Dg):(l.set k x).set k y=l.set k y:=List.set_set ..
theorem xS{N:Nat}{w:World}{b:Nat}{s:Cr}{L:Sls}(S:St N w b s L){m:Nat->Int}{K:Int}(A:Al mach K s m)(hK:K<=8000000){l1 l2:List Dg}{o:Dg}(hu:s.under=l1++o::l2)(h2:o.st≠2){c:Cm}(hc:CmIs s.n o.i o.pc c)(hr:CmR c):
  Calls prog 87 #[.pointer (some ⟨b,0,none⟩),.int .i64 (l1.length:Int),cvC c] w fun e w'=>e=.returned (.tuple #[])/\∃L',St N w' b (finish s o c) L'/\To b w L w' L':=by
 have ho:o∈s.under:=by rw[hu];simp
 have HB1:Hid (BackOk (qX (fin1 s o c) o c) m):=zmo (zmp A (by omega) hu h2 hr) o c
 have HSET:Hid (sts o.i=true->SetOk (fin0 s o c) m o.seq c):=fun h=>zeE A (by omega) hu h2 hr h
 have HTO:Hid (c.rd≠0->0<=o.to/\o.to<96):=zjP A ho hc
 have HDN:Hid (DonAt s.slots o.seq l1.length):=by show DonAt _ _ _;rw[A.inv.slo];exact zmc hu A.inv.rise h2
 have HF0:Hid ({({s with under:=s.under.set l1.length {o with st:=2,c:=c}}:Cr)with slots:=donS s.slots o.seq}=fin0 s o c):=zjO hu A.inv.rise c
 have hjo:s.under[l1.length]?=some o:=by rw[hu];simp
 have hjl:l1.length<s.under.length:=(Ad.1 hjo).1
 have hln:=A.len
 have hlow:=(A.inv.low o ho)
 have htk:=A.rg.tak
 have q0:0<=o.seq:=hlow.1
 have q1:o.seq<=9000000:=by omega
 have hsl:s.slots.length<=100000:=by have:=A.rg.len;omega
 obtain⟨r,hrr⟩:∃r,r=finish s o c:=⟨_,rfl⟩
 rw[<-hrr]
 have HR:Hid (r=finish s o c):=hrr
 obtain⟨j,hj⟩:∃j,j=l1.length:=⟨_,rfl⟩
 rw[<-hj]at HDN HF0 hjo hjl⊢
 obtain⟨D,hD⟩:∃D,D=(dgl o).toArray:=⟨_,rfl⟩
 have HD:Hid (D=(dgl o).toArray):=hD
 have HI:Hid ((prog.info? 132).map (·.size)=some D.size/\28=D.size/\D.all (·.oneCell')=true):=by rw[hD];exact⟨zK o,rfl,qY o⟩
 clear hrr hu h2 hc hr A ho hj hlow htk hD
 go_enter func87,ntmps87
 go_upto_region 1 with fail
 refine Wi.zj (Φ:=fun W=>Ap _ _ _ _ W) ?_
 intro V h1 hb
 have CV:Hid (Cb V w.heap.size c):=h1
 have SV:Hid (St N V b s L):=S.below hb
 have TV:Hid (To b w L V L):=ze L hb
 have hpo:Hid (¬own b L w.heap.size):=fun h=>by have:=qN S h;omega
 clear h1 hb S
 generalize w.heap.size=p at*
 obtain⟨ug,uo,uc,euv,huc,_,hug,hucs,_⟩:=SV.out.its.iu.at (by omega)
 have k334:V.cell? ⟨b,334,none⟩=some (.slice (some ⟨ug,uo,none⟩) s.under.length uc):=(zd SV.out.row (by omega)).trans (congrArg some euv)
 have HRg:Hid (V.rangeAt ug (uo+j*28) (dgl o)):=by
  intro i v hv
  rw[Ae]
  exact hucs _ _ (qF zF hjo hv)
 have HEU:Hid (L.u=.slice (some ⟨ug,uo,none⟩) s.under.length uc):=euv
 obtain⟨un,hun⟩:∃un,un=s.under.length:=⟨_,rfl⟩
 rw[<-hun]at k334 HEU huc hjl hln
 have j0:0<=(j:Int):=by omega
 have j1:(j:Int)<(un:Int):=by omega
 have hjo':Hid (s.under[j]?=some o):=hjo
 clear euv hucs hug hun hjo
 go_upto_region 2 with(first|(refine Ai rfl 132 _ rfl ug (uo+j*28) rfl (dgl o) _ HRg.out underlying132 rfl qt ?_;rw[<-HD.out])|(refine An rfl 132 _ _ rfl _ _ rfl rfl 132 _ (heap_alloc_new _ _) HI.out.1 HI.out.2.1 HI.out.2.2 ?_;rw[Ah]))
 refine Wi.zj (Φ:=fun W=>Ap _ _ _ _ W) ?_
 intro V1 h1 hb
 have B1:Hid (Bx V1 V.heap.size o):=by show _=_;rw[h1,HD.out]
 have C1:Hid (Cb V1 p c):=CV.out.below hb
 have S1:Hid (St N V1 b s L):=SV.out.below hb
 have T1:Hid (To b w L V1 L):=TV.out.trans (ze L hb)
 have hzo:Hid (¬own b L V.heap.size):=fun h=>by have:=qN SV.out h;omega
 clear h1 hb CV SV TV k334 HRg
 generalize V.heap.size=z at*
 have k334:V1.cell? ⟨b,334,none⟩=some (.slice (some ⟨ug,uo,none⟩) un uc):=(zd S1.out.row (by omega)).trans (congrArg some HEU.out)
 have hub:ug≠b:=(S1.out.apart.2.1 ug (by rw[HEU.out];rfl)).2.2
 have hup:ug≠p:=fun e=>hpo.out (.inr (.inr (.inl (by rw[HEU.out,e];rfl))))
 obtain⟨g',o',cap',ev',hth,s2,t2⟩:=S1.out.dr.putU (y:={o with st:=2}) (j:=7) (news:=[.int .i64 2]) hjo'.out (by decide) rfl (by intro u hu;simp at hu;subst hu;rfl)
 obtain⟨rfl,rfl⟩:ug=g'/\uo=o':=by rw[HEU.out]at ev';injection ev' with h1 _ _;injection h1 with h1;injection h1 with h1 h2;exact⟨h1,h2⟩
 obtain⟨g',o',cap',ev2,hth2,s3,t3⟩:=s2.putU (y:={o with st:=2,c:=c}) (j:=17) (news:=(cC c).toList) (k:=j) (x:={o with st:=2}) (by rw[List.getElem?_set,if_pos rfl,if_pos (by have:=(Ad.1 hjo'.out).1;exact this)]) (by simp[cC]) rfl (by intro u hu;exact Array.all_eq_true_iff_forall_mem.1 (vK c) u (by simpa using hu))
 obtain⟨rfl,rfl⟩:ug=g'/\uo=o':=by rw[HEU.out]at ev2;injection ev2 with h1 _ _;injection h1 with h1;injection h1 with h1 h2;exact⟨h1,h2⟩
 rw[zjQ]at s3
 rw[<-Ae]at hth hth2 s3 t3 t2
 rw[<-Ae]at hth2 s3 t3
 obtain⟨W2,hW2⟩:∃W2,W2=V1.drew.setCell ⟨ug,uo+j*28+7,none⟩ (.int .i64 2):=⟨_,rfl⟩
 have hW2':W2=(V1.setCell ⟨ug,uo+j*28+7,none⟩ (.int .i64 2)).drew:=by rw[hW2];first|rfl|simp
 obtain⟨W3,hW3⟩:∃W3,W3=W2.setCells ug (uo+j*28+17) (cC c).toList:=⟨_,rfl⟩
 have HTH2:Hid (W2.there ug (uo+j*28+17) (cC c).size):=by rw[hW2];exact hth2
 have S3:Hid (St N W3 b {s with under:=s.under.set j {o with st:=2,c:=c}} L):=by rw[hW3,hW2];exact s3
 have T3:Hid (To b w L W3 L):=by rw[hW3,hW2];exact T1.out.dr.trans (t2.trans t3)
 have t13:To b V1 L W3 L:=by rw[hW3,hW2];exact(To.dr (To.refl b V1 L)).trans (t2.trans t3)
 have B3:Hid (Bx W3 z o):=B1.out.to t13 hzo.out
 have C3:Hid (Cb W3 p c):=C1.out.to t13 hpo.out
 have HW2:Hid (W2=(V1.setCell ⟨ug,uo+j*28+7,none⟩ (.int .i64 2)).drew):=hW2'
 have HW3:Hid (W3=W2.setCells ug (uo+j*28+17) (cC c).toList):=hW3
 have c7:V1.cell? ⟨ug,uo+j*28+7,none⟩=some (.int .i64 o.st):=by
  obtain⟨g',o',cap',ev3,_,_,_,hcs,_⟩:=S1.out.its.iu.at (by have:=(Ad.1 hjo'.out).1;omega)
  obtain⟨rfl,rfl⟩:ug=g'/\uo=o':=by rw[HEU.out]at ev3;injection ev3 with h1 _ _;injection h1 with h1;injection h1 with h1 h2;exact⟨h1,h2⟩
  rw[Ae]
  exact hcs _ _ (qF zF hjo'.out rfl)
 have f7:V1.frozen? ⟨ug,uo+j*28+7,none⟩=false:=(hth 0 (by decide)).2
 clear hth hth2 s2 s3 t2 t3 t13 ev' ev2 hW2 hW2' hW3
 refine zq (S:=fun w'=>w'.cell? ⟨b,334,none⟩=some (.slice (some ⟨ug,uo,none⟩) un uc)/\w'.rangeAt p 0 ((cC c).toList)) [16] (by kernel_rfl) (⟨k334,zhX C1.out⟩) (fun hH=>?_)
 refine tU 0 (.pointer (some ⟨b,0,none⟩)) ?_;go_simp
 refine tU 1 (.pointer (some ⟨b,0,none⟩)) ?_;go_simp
 refine tU 2 (.pointer (some ⟨b,334,none⟩)) ?_;go_simp
 refine tA 3 (.slice (some ⟨ug,uo,none⟩) un uc) ?_;go_simp
 refine tU 4 (.int .i64 (j:Int)) ?_;go_simp
 refine tU 5 (.pointer (some ⟨b,0,none⟩)) ?_;go_simp
 refine tU 6 (.pointer (some ⟨b,0,none⟩)) ?_;go_simp
 refine tU 7 (.pointer (some ⟨b,334,none⟩)) ?_;go_simp
 refine tA 8 (.slice (some ⟨ug,uo,none⟩) un uc) ?_;go_simp
 refine tU 9 (.int .i64 (j:Int)) ?_;go_simp
 refine tS 10 (.agg ((cC c).toList).toArray) rfl (Am (by rfl) 68 _ rfl _ _ rfl ((cC c).toList) _ (fun wz hSw=>hSw.2) underlying68 rfl (vT c)) hH ?_;go_simp
 refine tU 11 (.pointer (some ⟨ug,uo+j*28,none⟩)) ?_;go_simp
 refine tU 12 (.pointer (some ⟨ug,uo+j*28+7,none⟩)) ?_;go_simp
 refine zC 13 rfl (fun K hK=>?_)
 go_simp
 refine hK.out _ _ (⟨vJ hH.1 hub,zn4 hH.2 hup⟩) (fun hN=>?_)
 clear hK K hH
 have hH:=hN
 clear hN
 try go_simp
 refine tU 14 (.pointer (some ⟨ug,uo+j*28,none⟩)) ?_;go_simp
 refine tU 15 (.pointer (some ⟨ug,uo+j*28+17,none⟩)) ?_;go_simp
 rw[<-HW2.out]
 refine zL 16 rfl (fun K hK=>?_)
 rw[if_pos (by rfl)]
 refine wp_store_mid 68 _ _ rfl ug (uo+j*28+17) (cC c) rfl rfl (HTH2.out) (kC c) (vK c) ?_
 refine hK.out _ _ ?_
 clear hK K
 try go_simp
 rw[<-HW3.out]
 refine zE (by kernel_rfl) ?_ _
 clear hH HTH2 HW2 HW3 S1 T1 B1 C1 k334 c7 f7 hub hup j0 j1 W2
 obtain⟨a,cc,ea,hl0⟩:=S3.out.its.isl
 have k333:W3.cell? ⟨b,333,none⟩=some (.slice a s.slots.length cc):=(zd S3.out.row (by omega)).trans (congrArg some ea)
 have CD:Hid (∀W,Below W3.heap.size W3 W->Calls prog 124 #[.slice a s.slots.length cc,.int .i64 o.seq] W fun e w'=>(∃a c,e=.returned (.tuple #[.slice a (donS s.slots o.seq).length c,.bool true])/\LC w' a (donS s.slots o.seq).length c 2 (scs (donS s.slots o.seq))/\FarC W.heap.size a)/\Below W.heap.size W w'):=fun W hW=>by
  have:=zn6 S3.out o.seq j HDN.out hsl W hW
  rw[ea]at this
  exact this
 have cz0:W3.cell? ⟨z,0,none⟩=some (.int .i64 o.seq):=zl B3.out 0 rfl
 clear hl0 ea
 obtain⟨ds,hds⟩:∃ds,ds=donS s.slots o.seq:=⟨_,rfl⟩
 rw[<-hds]at CD HF0
 clear hds HDN
 go_upto_region 3 with fail
 refine zq (S:=fun w'=>w'.cell? ⟨b,333,none⟩=some (.slice a s.slots.length cc)/\w'.cell? ⟨z,0,none⟩=some (.int .i64 o.seq)) [13] (by kernel_rfl) (⟨k333,cz0⟩) (fun hH=>?_)
 refine tU 0 (.pointer (some ⟨b,0,none⟩)) ?_;go_simp
 refine tU 1 (.pointer (some ⟨b,0,none⟩)) ?_;go_simp
 refine tU 2 (.pointer (some ⟨b,0,none⟩)) ?_;go_simp
 refine tU 3 (.pointer (some ⟨b,333,none⟩)) ?_;go_simp
 refine tA 4 (.slice a s.slots.length cc) ?_;go_simp
 refine tU 5 (.pointer (some ⟨z,0,none⟩)) ?_;go_simp
 refine tB 6 (.int .i64 o.seq) ?_;go_simp
 refine zC 7 rfl (fun K hK=>?_)
 go_simp
 refine(CD.out _ ((Ao _ _).drew)).mono ?_
 rintro e V3 ⟨⟨a3,c3,rfl,hl3,hf3⟩,hk3⟩
 have HK3:Hid (Below W3.heap.size W3 V3):=zg hk3 (Ak _)
 have HL3:Hid (LC V3 a3 ds.length c3 2 (scs ds)/\FarC W3.heap.size a3):=⟨hl3,hf3⟩
 clear hl3 hf3
 go_wp2_with fail
 refine hK.out _ _ (⟨zn hk3 (hH.1),zn hk3 (hH.2)⟩) (fun hN=>?_)
 clear hK K hH
 have hH:=hN
 clear hN
 try go_simp
 have S4:Hid (St N V3 b {s with under:=s.under.set j {o with st:=2,c:=c}} L):=S3.out.below HK3.out
 have cA:=hH.1
 have fA:=S4.out.frozen 333
 refine tU 8 (.tuple #[.slice a3 ds.length c3,.bool true]) ?_;go_simp
 refine tU 9 (.slice a3 ds.length c3) ?_;go_simp
 refine tU 10 (.bool true) ?_;go_simp
 refine tU 11 (.pointer (some ⟨b,0,none⟩)) ?_;go_simp
 refine tU 12 (.pointer (some ⟨b,333,none⟩)) ?_;go_simp
 refine zL 13 rfl (fun K hK=>?_)
 go_simp
 refine hK.out _ _ ?_
 clear hK K
 try go_simp
 refine zE (by kernel_rfl) ?_ _
 obtain⟨s5,t5⟩:=S4.out.setSlots HL3.out.1 (qV S3.out (Ak _) HL3.out.2)
 rw[HF0.out]at s5
 have S5:Hid (St N (V3.setCell ⟨b,333,none⟩ (.slice a3 ds.length c3)) b (fin0 s o c) {L with s:=.slice a3 ds.length c3}):=s5
 have T5:Hid (To b w L (V3.setCell ⟨b,333,none⟩ (.slice a3 ds.length c3)) {L with s:=.slice a3 ds.length c3}):=(T3.out.trans (ze L HK3.out)).trans t5
 have B5:Hid (Bx (V3.setCell ⟨b,333,none⟩ (.slice a3 ds.length c3)) z o):=(B3.out.below HK3.out).to t5 hzo.out
 have C5:Hid (Cb (V3.setCell ⟨b,333,none⟩ (.slice a3 ds.length c3)) p c):=(C3.out.below HK3.out).to t5 hpo.out
 have z5:Hid (¬own b {L with s:=.slice a3 ds.length c3} z):=hzo.out
 have p5:Hid (¬own b {L with s:=.slice a3 ds.length c3} p):=hpo.out
 clear hH s5 t5 S4 S3 T3 B3 C3 HL3 HK3 cA fA k333 CD cz0 HF0 hzo hpo
 generalize V3.setCell ⟨b,333,none⟩ (.slice a3 ds.length c3)=V5 at*
 generalize ({L with s:=.slice a3 ds.length c3}:Sls)=L5 at*
 obtain⟨f0,hf0⟩:∃f0,f0=fin0 s o c:=⟨_,rfl⟩
 have HF1:Hid (fin1 s o c=if sts o.i then settle f0 o.seq c else f0):=by rw[hf0];exact zhZ s o c
 rw[<-hf0]at S5 HSET
 clear hf0
 have CS:=fun W=>vA o.i W
 go_wp2_with(refine Ai rfl 78 _ rfl z 2 rfl (ivL o.i).toList _ (xh B5.out) underlying78 rfl (qK _) ?_)
 refine(CS _).mono ?_
 rintro e V6 ⟨rfl,hk6⟩
 have S6:Hid (St N V6 b f0 L5):=S5.out.below hk6
 have T6:Hid (To b w L V6 L5):=T5.out.trans (ze L5 hk6)
 have B6:Hid (Bx V6 z o):=B5.out.below hk6
 have C6:Hid (Cb V6 p c):=C5.out.below hk6
 clear hk6 S5 T5 B5 C5 CS
 obtain⟨f1,hf1⟩:∃f1,f1=fin1 s o c:=⟨_,rfl⟩
 have HR2:Hid (r=if jI f1 o c=true/\c.next=o.next then qX f1 o c else{Co.back (qX f1 o c) (o.seq+1) c.next with opn:=decide (c.st=0)}):=by show _=_;rw[HR.out,hf1];rfl
 rw[<-hf1]at HB1 HF1
 clear HR hf1
 cases hst:sts o.i with
 |false=>
  have e:=HF1.out
  rw[hst]at e
  simp only[Bool.false_eq_true,if_false]at e
  subst e
  clear HF1 hst HSET
  have HBr:Hid (V6.heap[z]?=some (.cells D 132 (0,0))):=by rw[HD.out];exact B6.out
  have RC:Hid (V6.heap[p]?=some (.cells (cC c) 68 (0,0))):=C6.out
  have CF:Hid (Calls prog 127 #[.pointer (some ⟨b,0,none⟩),.agg D,cvC c] V6 fun e w'=>e=.returned (.bool (jI f1 o c))/\St N w' b (qX f1 o c) L5/\To b V6 L5 w' L5):=by rw[HD.out];exact zcn S6.out o c HTO.out
  obtain⟨rt,hrt⟩:∃rt,rt=jI f1 o c:=⟨_,rfl⟩
  obtain⟨f2,hf2⟩:∃f2,f2=qX f1 o c:=⟨_,rfl⟩
  rw[<-hrt,<-hf2]at CF HR2
  rw[<-hf2]at HB1
  clear hrt hf2 HTO
  go_wp2_with(first|(refine Af rfl 132 _ rfl _ rfl 132 _ (0,0) _ HBr.out underlying132 rfl HI.out.1 ?_)|(refine Af rfl 68 _ rfl _ rfl 68 _ (0,0) _ RC.out underlying68 rfl (kC c) ?_))
  refine CF.out.mono ?_
  rintro e V8 ⟨rfl,u1,u2⟩
  have S8:Hid (St N V8 b f2 L5):=u1
  have T8:Hid (To b w L V8 L5):=T6.out.trans u2
  have B8:Hid (Bx V8 z o):=B6.out.to u2 z5.out
  have C8:Hid (Cb V8 p c):=C6.out.to u2 p5.out
  clear u1 u2 S6 T6 B6 C6 CF HBr RC HI HD
  have cn:V8.cell? ⟨p,1,none⟩=some (.int .u32 c.next):=qQ C8.out 1 rfl
  have co:V8.cell? ⟨z,13,none⟩=some (.int .u32 o.next):=zl B8.out 13 rfl
  have c0:V8.cell? ⟨z,0,none⟩=some (.int .i64 o.seq):=zl B8.out 0 rfl
  obtain⟨nx,hnx⟩:∃nx,nx=c.next:=⟨_,rfl⟩
  obtain⟨ny,hny⟩:∃ny,ny=o.next:=⟨_,rfl⟩
  rw[<-hnx]at cn HR2
  rw[<-hny]at co HR2
  obtain⟨cs,hcs⟩:∃cs,cs=c.st:=⟨_,rfl⟩
  rw[<-hcs]at HR2
  have HCS:Hid (cs=c.st):=hcs
  clear hnx hny hcs
  by_cases hok:rt=true/\nx=ny
  ·obtain⟨rfl,rfl⟩:=hok
   have hr:=HR2.out
   rw[if_pos ⟨rfl,rfl⟩]at hr
   subst hr
   clear HR2
   go_wp2_with fail
   refine Ab (Aa rfl _ _ _) rfl ⟨rfl,L5,S8.out,T8.out⟩
  ·have hr:=HR2.out
   rw[if_neg hok]at hr
   have HR3:Hid (r={Co.back f2 (o.seq+1) nx with opn:=decide (cs=0)}):=hr
   have CB:Hid (Calls prog 128 #[.pointer (some ⟨b,0,none⟩),.int .i64 (o.seq+1),.int .u32 nx] V8 fun e w'=>e=.returned (.tuple #[])/\∃L',St N w' b (Co.back f2 (o.seq+1) nx) L'/\To b V8 L5 w' L'):=vS S8.out HB1.out (o.seq+1) nx
   clear hr HR2
   cases rt with
   |true=>
    have hne:¬nx=ny:=fun e=>hok ⟨rfl,e⟩
    have hne':(nx != ny)=true:=by simpa using hne
    clear hok
    go_wp2_with fail
    refine CB.out.mono ?_
    rintro e V9 ⟨rfl,L9,u1,u2⟩
    have S9:Hid (St N V9 b (Co.back f2 (o.seq+1) nx) L9):=u1
    have T9:Hid (To b w L V9 L9):=T8.out.trans u2
    have C9:Hid (Cb V9 p c):=C8.out.to u2 p5.out
    clear u1 u2 S8 T8 C8 B8 CB cn co c0
    have c2:V9.cell? ⟨p,2,none⟩=some (.int .i64 cs):=qQ C9.out 2 (by rw[HCS.out];rfl)
    have k338:V9.cell? ⟨b,338,none⟩=some (.bool (Co.back f2 (o.seq+1) nx).opn):=(zd S9.out.row (by omega)).trans rfl
    have f338:=S9.out.frozen 338
    obtain⟨s10,t10⟩:=S9.out.setOpn (decide (cs=0))
    rw[<-HR3.out]at s10
    have S10:Hid (St N (V9.setCell ⟨b,338,none⟩ (.bool (decide (cs=0)))) b r L9):=s10
    have T10:Hid (To b w L (V9.setCell ⟨b,338,none⟩ (.bool (decide (cs=0)))) L9):=T9.out.trans t10
    clear s10 t10
    by_cases hcs:cs=0
    ·subst hcs
     go_wp2_with fail
     refine Ab (Aa rfl _ _ _) rfl ⟨rfl,L9,S10.out,T10.out⟩
    ·have hcs':(cs==0)=false:=by simpa using hcs
     rw[decide_eq_false hcs]at S10 T10
     go_wp2_with fail
     refine Ab (Aa rfl _ _ _) rfl ⟨rfl,L9,S10.out,T10.out⟩
   |false=>
    clear hok
    go_wp2_with fail
    refine CB.out.mono ?_
    rintro e V9 ⟨rfl,L9,u1,u2⟩
    have S9:Hid (St N V9 b (Co.back f2 (o.seq+1) nx) L9):=u1
    have T9:Hid (To b w L V9 L9):=T8.out.trans u2
    have C9:Hid (Cb V9 p c):=C8.out.to u2 p5.out
    clear u1 u2 S8 T8 C8 B8 CB cn co c0
    have c2:V9.cell? ⟨p,2,none⟩=some (.int .i64 cs):=qQ C9.out 2 (by rw[HCS.out];rfl)
    have k338:V9.cell? ⟨b,338,none⟩=some (.bool (Co.back f2 (o.seq+1) nx).opn):=(zd S9.out.row (by omega)).trans rfl
    have f338:=S9.out.frozen 338
    obtain⟨s10,t10⟩:=S9.out.setOpn (decide (cs=0))
    rw[<-HR3.out]at s10
    have S10:Hid (St N (V9.setCell ⟨b,338,none⟩ (.bool (decide (cs=0)))) b r L9):=s10
    have T10:Hid (To b w L (V9.setCell ⟨b,338,none⟩ (.bool (decide (cs=0)))) L9):=T9.out.trans t10
    clear s10 t10
    by_cases hcs:cs=0
    ·subst hcs
     go_wp2_with fail
     refine Ab (Aa rfl _ _ _) rfl ⟨rfl,L9,S10.out,T10.out⟩
    ·have hcs':(cs==0)=false:=by simpa using hcs
     rw[decide_eq_false hcs]at S10 T10
     go_wp2_with fail
     refine Ab (Aa rfl _ _ _) rfl ⟨rfl,L9,S10.out,T10.out⟩
 |true=>
  have e:=HF1.out
  rw[hst]at e
  simp only[if_true]at e
  have CSt:Hid (Calls prog 126 #[.pointer (some ⟨b,0,none⟩),.int .i64 o.seq,cvC c] V6 fun e w'=>e=.returned (.tuple #[])/\∃L',St N w' b f1 L'/\To b V6 L5 w' L'):=by rw[e];exact zdu S6.out o.seq c (HSET.out hst)
  have cz0:V6.cell? ⟨z,0,none⟩=some (.int .i64 o.seq):=zl B6.out 0 rfl
  have RC:Hid (V6.heap[p]?=some (.cells (cC c) 68 (0,0))):=C6.out
  clear e HF1 hst HSET
  go_wp2_with(refine Af rfl 68 _ rfl _ rfl 68 _ (0,0) _ RC.out underlying68 rfl (kC c) ?_)
  refine CSt.out.mono ?_
  rintro e V7 ⟨rfl,L7,u1,u2⟩
  have S7:Hid (St N V7 b f1 L7):=u1
  have T7:Hid (To b w L V7 L7):=T6.out.trans u2
  have B7:Hid (Bx V7 z o):=B6.out.to u2 z5.out
  have C7:Hid (Cb V7 p c):=C6.out.to u2 p5.out
  have z7:Hid (¬own b L7 z):=B6.out.not u2 z5.out
  have p7:Hid (¬own b L7 p):=C6.out.not u2 p5.out
  clear u1 u2 S6 T6 B6 C6 z5 p5 CSt cz0 RC
  have HBr:Hid (V7.heap[z]?=some (.cells D 132 (0,0))):=by rw[HD.out];exact B7.out
  have RC:Hid (V7.heap[p]?=some (.cells (cC c) 68 (0,0))):=C7.out
  have CF:Hid (Calls prog 127 #[.pointer (some ⟨b,0,none⟩),.agg D,cvC c] V7 fun e w'=>e=.returned (.bool (jI f1 o c))/\St N w' b (qX f1 o c) L7/\To b V7 L7 w' L7):=by rw[HD.out];exact zcn S7.out o c HTO.out
  obtain⟨rt,hrt⟩:∃rt,rt=jI f1 o c:=⟨_,rfl⟩
  obtain⟨f2,hf2⟩:∃f2,f2=qX f1 o c:=⟨_,rfl⟩
  rw[<-hrt,<-hf2]at CF HR2
  rw[<-hf2]at HB1
  clear hrt hf2 HTO
  go_wp2_with(first|(refine Af rfl 132 _ rfl _ rfl 132 _ (0,0) _ HBr.out underlying132 rfl HI.out.1 ?_)|(refine Af rfl 68 _ rfl _ rfl 68 _ (0,0) _ RC.out underlying68 rfl (kC c) ?_))
  refine CF.out.mono ?_
  rintro e V8 ⟨rfl,u1,u2⟩
  have S8:Hid (St N V8 b f2 L7):=u1
  have T8:Hid (To b w L V8 L7):=T7.out.trans u2
  have B8:Hid (Bx V8 z o):=B7.out.to u2 z7.out
  have C8:Hid (Cb V8 p c):=C7.out.to u2 p7.out
  clear u1 u2 S7 T7 B7 C7 CF HBr RC HI HD
  have cn:V8.cell? ⟨p,1,none⟩=some (.int .u32 c.next):=qQ C8.out 1 rfl
  have co:V8.cell? ⟨z,13,none⟩=some (.int .u32 o.next):=zl B8.out 13 rfl
  have c0:V8.cell? ⟨z,0,none⟩=some (.int .i64 o.seq):=zl B8.out 0 rfl
  obtain⟨nx,hnx⟩:∃nx,nx=c.next:=⟨_,rfl⟩
  obtain⟨ny,hny⟩:∃ny,ny=o.next:=⟨_,rfl⟩
  rw[<-hnx]at cn HR2
  rw[<-hny]at co HR2
  obtain⟨cs,hcs⟩:∃cs,cs=c.st:=⟨_,rfl⟩
  rw[<-hcs]at HR2
  have HCS:Hid (cs=c.st):=hcs
  clear hnx hny hcs
  by_cases hok:rt=true/\nx=ny
  ·obtain⟨rfl,rfl⟩:=hok
   have hr:=HR2.out
   rw[if_pos ⟨rfl,rfl⟩]at hr
   subst hr
   clear HR2
   go_wp2_with fail
   refine Ab (Aa rfl _ _ _) rfl ⟨rfl,L7,S8.out,T8.out⟩
  ·have hr:=HR2.out
   rw[if_neg hok]at hr
   have HR3:Hid (r={Co.back f2 (o.seq+1) nx with opn:=decide (cs=0)}):=hr
   have CB:Hid (Calls prog 128 #[.pointer (some ⟨b,0,none⟩),.int .i64 (o.seq+1),.int .u32 nx] V8 fun e w'=>e=.returned (.tuple #[])/\∃L',St N w' b (Co.back f2 (o.seq+1) nx) L'/\To b V8 L7 w' L'):=vS S8.out HB1.out (o.seq+1) nx
   clear hr HR2
   cases rt with
   |true=>
    have hne:¬nx=ny:=fun e=>hok ⟨rfl,e⟩
    have hne':(nx != ny)=true:=by simpa using hne
    clear hok
    go_wp2_with fail
    refine CB.out.mono ?_
    rintro e V9 ⟨rfl,L9,u1,u2⟩
    have S9:Hid (St N V9 b (Co.back f2 (o.seq+1) nx) L9):=u1
    have T9:Hid (To b w L V9 L9):=T8.out.trans u2
    have C9:Hid (Cb V9 p c):=C8.out.to u2 p7.out
    clear u1 u2 S8 T8 C8 B8 CB cn co c0
    have c2:V9.cell? ⟨p,2,none⟩=some (.int .i64 cs):=qQ C9.out 2 (by rw[HCS.out];rfl)
    have k338:V9.cell? ⟨b,338,none⟩=some (.bool (Co.back f2 (o.seq+1) nx).opn):=(zd S9.out.row (by omega)).trans rfl
    have f338:=S9.out.frozen 338
    obtain⟨s10,t10⟩:=S9.out.setOpn (decide (cs=0))
    rw[<-HR3.out]at s10
    have S10:Hid (St N (V9.setCell ⟨b,338,none⟩ (.bool (decide (cs=0)))) b r L9):=s10
    have T10:Hid (To b w L (V9.setCell ⟨b,338,none⟩ (.bool (decide (cs=0)))) L9):=T9.out.trans t10
    clear s10 t10
    by_cases hcs:cs=0
    ·subst hcs
     go_wp2_with fail
     refine Ab (Aa rfl _ _ _) rfl ⟨rfl,L9,S10.out,T10.out⟩
    ·have hcs':(cs==0)=false:=by simpa using hcs
     rw[decide_eq_false hcs]at S10 T10
     go_wp2_with fail
     refine Ab (Aa rfl _ _ _) rfl ⟨rfl,L9,S10.out,T10.out⟩
   |false=>
    clear hok
    go_wp2_with fail
    refine CB.out.mono ?_
    rintro e V9 ⟨rfl,L9,u1,u2⟩
    have S9:Hid (St N V9 b (Co.back f2 (o.seq+1) nx) L9):=u1
    have T9:Hid (To b w L V9 L9):=T8.out.trans u2
    have C9:Hid (Cb V9 p c):=C8.out.to u2 p7.out
    clear u1 u2 S8 T8 C8 B8 CB cn co c0
    have c2:V9.cell? ⟨p,2,none⟩=some (.int .i64 cs):=qQ C9.out 2 (by rw[HCS.out];rfl)
    have k338:V9.cell? ⟨b,338,none⟩=some (.bool (Co.back f2 (o.seq+1) nx).opn):=(zd S9.out.row (by omega)).trans rfl
    have f338:=S9.out.frozen 338
    obtain⟨s10,t10⟩:=S9.out.setOpn (decide (cs=0))
    rw[<-HR3.out]at s10
    have S10:Hid (St N (V9.setCell ⟨b,338,none⟩ (.bool (decide (cs=0)))) b r L9):=s10
    have T10:Hid (To b w L (V9.setCell ⟨b,338,none⟩ (.bool (decide (cs=0)))) L9):=T9.out.trans t10
    clear s10 t10
    by_cases hcs:cs=0
    ·subst hcs
     go_wp2_with fail
     refine Ab (Aa rfl _ _ _) rfl ⟨rfl,L9,S10.out,T10.out⟩
    ·have hcs':(cs==0)=false:=by simpa using hcs
     rw[decide_eq_false hcs]at S10 T10
     go_wp2_with fail
     refine Ab (Aa rfl _ _ _) rfl ⟨rfl,L9,S10.out,T10.out⟩
theorem zmq(i:In)(pc a b:Int)(n:Nat)(f:Nat->Int)(h:ldn i.op=0):allW n f i pc a b=mach.dow i pc a b n:=by
 unfold allW
 rw[if_neg (by rw[h];exact fun h=>h rfl)]
 rfl
theorem cDo{N:Nat}{w:World}{b:Nat}{s:Cr}{L:Sls}(S:St N w b s L)(i:In)(hi:InOk i)(h0:ldn i.op=0)(pc x y:Int)(hp:U32 pc)(hx:U32 x)(hy:U32 y)(W:World)(hW:Below w.heap.size w W):
  Calls prog 90 #[ivI i,.int .u32 pc,.int .u32 x,.int .u32 y,L.m] W fun e w'=>e=.returned (cvC (mach.dow i pc x y s.n))/\Below W.heap.size W w':=by
 have S':=S.below hW
 obtain⟨p,cap,em,hB⟩:=S'.its.im
 rw[em,<-zmq i pc x y s.n s.f h0]
 exact zg5 i hi pc x y hp.1 hp.2 hx.1 hx.2 hy.1 hy.2 W hB S'.its.tb2
theorem zoo{s:Cr}{l1 l2:List Dg}{o:Dg}(hu:s.under=l1++o::l2)(hr:Rise s.under)(g:Dg->Dg):({s with under:=s.under.set l1.length (g o)}:Cr)={s with under:=putO s.under o.seq g}:=by rw[(zdo hu hr g).1]
theorem kE{N:Nat}{w:World}{b:Nat}{s:Cr}{L:Sls}(S:St N w b s L){m:Nat->Int}{K:Int}(A:Al mach K s m)(hK:K<=8000000){l1 l2:List Dg}{o:Dg}(hu:s.under=l1++o::l2)(h1:o.st=0):
  Calls prog 63 #[.pointer (some ⟨b,0,none⟩),.int .i64 (l1.length:Int)] w fun e w'=>e=.returned (.tuple #[])/\∃L',St N w' b (sta1 mach s o) L'/\To b w L w' L':=by
 have ho:o∈s.under:=by rw[hu];simp
 have hin:=zkw jE A.inv ho (by omega)
 have hdr:=A.rg.und o ho
 obtain⟨ra0,rb0,_,_⟩:=kD zM A.inv ho A.rg.phys
 have hwa:=A.rg.wd o.a
 have hwb:=A.rg.wd o.b
 obtain⟨r,hrr⟩:∃r,r=sta1 mach s o:=⟨_,rfl⟩
 rw[<-hrr]
 have HR:Hid (r=if ldn o.i.op≠0 then{s with under:=putO s.under o.seq (fun o=>{o with st:=1})}else finish s o (mach.dow o.i o.pc (s.wd o.a) (s.wd o.b) s.n)):=hrr
 have hjo:s.under[l1.length]?=some o:=by rw[hu];simp
 have hjl:l1.length<s.under.length:=(Ad.1 hjo).1
 have HP1:Hid (({s with under:=s.under.set l1.length {o with st:=1}}:Cr)={s with under:=putO s.under o.seq (fun o=>{o with st:=1})}):=zoo hu A.inv.rise (fun o=>{o with st:=1})
 have hln:=A.len
 have HFN:Hid (ldn o.i.op=0->∀W,(St N W b s L)->Calls prog 87 #[.pointer (some ⟨b,0,none⟩),.int .i64 (l1.length:Int),cvC (mach.dow o.i o.pc (s.wd o.a) (s.wd o.b) s.n)] W fun e w'=>e=.returned (.tuple #[])/\∃L',St N w' b (finish s o (mach.dow o.i o.pc (s.wd o.a) (s.wd o.b) s.n)) L'/\To b W L w' L'):=fun h0 W SW=>by
  obtain⟨l1',l2',hu',hloc⟩:=xb A.inv.ch ho
  have hz:(fet mach s.n (fE s.f l1') (pE s.pc l1')).2=0:=Classical.byContradiction fun hz=>by have:=(hloc.bad hz).1;omega
  obtain⟨x,hx⟩:=vo hz
  rw[<-hloc.ins]at hx
  have hcm:=yx zM hx s.n s.f o.pc (s.wd o.a) (s.wd o.b)
  unfold comC at hcm
  rw[if_neg (by rw[h0];exact fun h=>h rfl)]at hcm
  exact xS SW A hK hu (by omega) hcm (jE.dow _ _ _ _ hin hdr.pc hwa hwb)
 have HDO:Hid (ldn o.i.op=0->∀W,St N W b s L->Calls prog 90 #[ivI o.i,.int .u32 o.pc,.int .u32 (s.wd o.a),.int .u32 (s.wd o.b),L.m] W fun e w'=>e=.returned (cvC (mach.dow o.i o.pc (s.wd o.a) (s.wd o.b) s.n))/\Below W.heap.size W w'):=fun h0 W SW=>cDo SW o.i hin h0 o.pc _ _ hdr.pc hwa hwb W (Ao _ _)
 obtain⟨j,hj⟩:∃j,j=l1.length:=⟨_,rfl⟩
 rw[<-hj]at hjo hjl HP1 HFN⊢
 obtain⟨x,hx⟩:∃x:Nat,o.a=(x:Int):=Ag ra0.1
 obtain⟨y,hy⟩:∃y:Nat,o.b=(y:Int):=Ag rb0.1
 have hx1:x<96:=by have:=ra0.2;omega
 have hy1:y<96:=by have:=rb0.2;omega
 rw[hx,hy]at HR HFN HDO
 have HXY:Hid (o.a=(x:Int)/\o.b=(y:Int)):=⟨hx,hy⟩
 obtain⟨D,hD⟩:∃D,D=(dgl o).toArray:=⟨_,rfl⟩
 have HD:Hid (D=(dgl o).toArray):=hD
 have HI:Hid ((prog.info? 132).map (·.size)=some D.size/\28=D.size/\D.all (·.oneCell')=true):=by rw[hD];exact⟨zK o,rfl,qY o⟩
 clear hrr hu h1 A ho hj hD hin hdr ra0 rb0 hwa hwb hx hy
 go_enter func63,ntmps63
 obtain⟨ug,uo,uc,euv,huc,_,hug,hucs,_⟩:=S.its.iu.at (by omega)
 have k334:w.cell? ⟨b,334,none⟩=some (.slice (some ⟨ug,uo,none⟩) s.under.length uc):=(zd S.row (by omega)).trans (congrArg some euv)
 have HRg:Hid (w.rangeAt ug (uo+j*28) (dgl o)):=by
  intro i v hv
  rw[Ae]
  exact hucs _ _ (qF zF hjo hv)
 have HEU:Hid (L.u=.slice (some ⟨ug,uo,none⟩) s.under.length uc):=euv
 obtain⟨un,hun⟩:∃un,un=s.under.length:=⟨_,rfl⟩
 rw[<-hun]at k334 HEU huc hjl hln
 have j0:0<=(j:Int):=by omega
 have j1:(j:Int)<(un:Int):=by omega
 have hjo':Hid (s.under[j]?=some o):=hjo
 clear euv hucs hug hun hjo
 go_upto_region 1 with(first|(refine Ai rfl 132 _ rfl ug (uo+j*28) rfl (dgl o) _ HRg.out underlying132 rfl qt ?_;rw[<-HD.out])|(refine An rfl 132 _ _ rfl _ _ rfl rfl 132 _ (heap_alloc_new _ _) HI.out.1 HI.out.2.1 HI.out.2.2 ?_;rw[Ah]))
 refine Wi.zj (Φ:=fun W=>Ap _ _ _ _ W) ?_
 intro V1 h1 hb
 have B1:Hid (Bx V1 w.heap.size o):=by show _=_;rw[h1,HD.out]
 have S1:Hid (St N V1 b s L):=S.below hb
 have T1:Hid (To b w L V1 L):=ze L hb
 clear h1 hb S k334 HRg
 generalize w.heap.size=z at*
 have k334:V1.cell? ⟨b,334,none⟩=some (.slice (some ⟨ug,uo,none⟩) un uc):=(zd S1.out.row (by omega)).trans (congrArg some HEU.out)
 have c2:V1.cell? ⟨z,2,none⟩=some (.int .i64 o.i.op):=zl B1.out 2 rfl
 have CL:=fun W=>jd o.i.op W
 have l0:=yk o.i.op
 obtain⟨ld,hld⟩:∃ld,ld=ldn o.i.op:=⟨_,rfl⟩
 rw[<-hld]at CL HR HFN HDO l0
 clear hld HD HI
 go_wp2_with fail
 refine(CL _).mono ?_
 rintro e V2 ⟨rfl,hk⟩
 subst hk
 clear CL
 by_cases h0:ld=0
 ·have hr:=HR.out
  rw[if_neg (by rw[h0];exact fun h=>h rfl)]at hr
  have HR2:Hid (r=finish s o (mach.dow o.i o.pc (s.wd (x:Int)) (s.wd (y:Int)) s.n)):=hr
  subst h0
  have HDO2:=HDO.out rfl
  have HFN2:=HFN.out rfl
  have HDO3:Hid _:=HDO2
  have HFN3:Hid _:=HFN2
  clear hr HR HDO HFN HDO2 HFN2 HP1 l0
  have cx:=S1.out.wrd x hx1
  have cy:=S1.out.wrd y hy1
  obtain⟨wx,hwx⟩:∃wx,wx=s.wd (x:Int):=⟨_,rfl⟩
  obtain⟨wy,hwy⟩:∃wy,wy=s.wd (y:Int):=⟨_,rfl⟩
  rw[<-hwx]at cx HDO3 HFN3 HR2
  rw[<-hwy]at cy HDO3 HFN3 HR2
  clear hwx hwy
  obtain⟨pm,cm,em,hm'⟩:=S1.out.its.im
  have k39:V2.cell? ⟨b,39,none⟩=some (.slice pm s.n cm):=(zd S1.out.row (by omega)).trans (congrArg some em)
  rw[em]at HDO3
  clear hm' em
  have c8:V2.cell? ⟨z,8,none⟩=some (.int .i64 (x:Int)):=zl B1.out 8 (by rw[<-HXY.out.1];rfl)
  have c9:V2.cell? ⟨z,9,none⟩=some (.int .i64 (y:Int)):=zl B1.out 9 (by rw[<-HXY.out.2];rfl)
  have c1:V2.cell? ⟨z,1,none⟩=some (.int .u32 o.pc):=zl B1.out 1 rfl
  have x0:0<=(x:Int):=by omega
  have x1:(x:Int)<96:=by omega
  have y0:0<=(y:Int):=by omega
  have y1:(y:Int)<96:=by omega
  obtain⟨cm0,hcm0⟩:∃c0,c0=mach.dow o.i o.pc wx wy s.n:=⟨_,rfl⟩
  rw[<-hcm0]at HDO3 HFN3 HR2
  clear hcm0
  go_upto_region 3 with fail
  refine zq (S:=fun w'=>w'.rangeAt z 2 ((ivL o.i).toList)/\w'.cell? ⟨z,1,none⟩=some (.int .u32 o.pc)/\w'.cell? ⟨z,8,none⟩=some (.int .i64 (x:Int))/\w'.cell? ⟨z,9,none⟩=some (.int .i64 (y:Int))/\w'.cell? ⟨b,141+x,none⟩=some (.int .u32 wx)/\w'.cell? ⟨b,141+y,none⟩=some (.int .u32 wy)/\w'.cell? ⟨b,39,none⟩=some (.slice pm s.n cm)) [25] (by kernel_rfl) (⟨xh B1.out,c1,c8,c9,cx,cy,k39⟩) (fun hH=>?_)
  refine tU 0 (.pointer (some ⟨b,0,none⟩)) ?_;go_simp
  refine tU 1 (.int .i64 (j:Int)) ?_;go_simp
  refine tU 2 (.pointer (some ⟨z,2,none⟩)) ?_;go_simp
  refine tS 3 (.agg ((ivL o.i).toList).toArray) rfl (Am (by rfl) 78 _ rfl _ _ rfl ((ivL o.i).toList) _ (fun wz hSw=>hSw.1) underlying78 rfl (qK _)) hH ?_;go_simp
  refine tU 4 (.pointer (some ⟨z,1,none⟩)) ?_;go_simp
  refine tS 5 (.int .u32 o.pc) rfl (Or.inl ⟨by rfl,by intro wz hSw;have hc:=hSw.2.1;go_simp⟩) hH ?_;go_simp
  refine tU 6 (.pointer (some ⟨b,0,none⟩)) ?_;go_simp
  refine tU 7 (.pointer (some ⟨z,8,none⟩)) ?_;go_simp
  refine tU 9 (.pointer (some ⟨b,0,none⟩)) ?_;go_simp
  refine tU 10 (.pointer (some ⟨b,141,none⟩)) ?_;go_simp
  refine tU 13 (.pointer (some ⟨b,0,none⟩)) ?_;go_simp
  refine tU 14 (.pointer (some ⟨z,9,none⟩)) ?_;go_simp
  refine tU 16 (.pointer (some ⟨b,0,none⟩)) ?_;go_simp
  refine tU 17 (.pointer (some ⟨b,141,none⟩)) ?_;go_simp
  refine tU 20 (.pointer (some ⟨b,0,none⟩)) ?_;go_simp
  refine tU 21 (.pointer (some ⟨b,0,none⟩)) ?_;go_simp
  refine tU 22 (.pointer (some ⟨b,3,none⟩)) ?_;go_simp
  refine tU 23 (.pointer (some ⟨b,39,none⟩)) ?_;go_simp
  refine tS 24 (.slice pm s.n cm) rfl (Or.inl ⟨by rfl,by intro wz hSw;have hc:=hSw.2.2.2.2.2.2;go_simp⟩) hH ?_;go_simp
  refine rZ [8,15] ?_
  refine(zi.cons rfl (fun K hK=>?_) (zi.cons rfl (fun K hK=>?_) zi.nil))
  ·have hc:=hH.2.2.1
   go_simp
   clear hc
   refine hK.out _ _ (hH) (fun hN=>?_)
   clear hK K hH
   have hH:=hN
   clear hN
   try go_simp
   refine tU 11 (.pointer (some ⟨b,141+x,none⟩)) ?_;go_simp
   refine tS 12 (.int .u32 wx) rfl (Or.inl ⟨by rfl,by intro wz hSw;have hc:=hSw.2.2.2.2.1;go_simp⟩) hH ?_;go_simp
   refine zC 15 rfl (fun K hK=>?_)
   have hc:=hH.2.2.2.1
   go_simp
   clear hc
   refine hK.out _ _ (hH) (fun hN=>?_)
   clear hK K hH
   have hH:=hN
   clear hN
   try go_simp
   refine tU 18 (.pointer (some ⟨b,141+y,none⟩)) ?_;go_simp
   refine tS 19 (.int .u32 wy) rfl (Or.inl ⟨by rfl,by intro wz hSw;have hc:=hSw.2.2.2.2.2.1;go_simp⟩) hH ?_;go_simp
   refine zL 25 rfl (fun K hK=>?_)
   go_simp
   refine(HDO3.out _ S1.out.dr).mono ?_
   rintro e V4 ⟨rfl,hk4⟩
   have HK4:Hid (Below V2.heap.size V2 V4):=zg hk4 (Ak _)
   have S4:Hid (St N V4 b s L):=S1.out.below HK4.out
   go_wp2_with fail
   refine hK.out _ _ ?_
   clear hK K
   try go_simp
   refine zL 26 rfl (fun K hK=>?_)
   go_simp
   refine(HFN3.out _ S4.out).mono ?_
   rintro e V5 ⟨rfl,L5,u1,u2⟩
   rw[<-HR2.out]at u1
   have S5:Hid (St N V5 b r L5):=u1
   have T5:Hid (To b w L V5 L5):=(T1.out.trans (ze L HK4.out)).trans u2
   clear u1 u2
   go_wp2_with fail
   refine hK.out _ _ ?_
   clear hK K
   try go_simp
   refine zE (by kernel_rfl) ?_ _
   clear hH
   go_wp2_with fail
   refine Ab (Aa rfl _ _ _) rfl ⟨rfl,L5,S5.out,T5.out⟩
  ·have hc:=hH.2.2.2.1
   go_simp
   clear hc
   refine hK.out _ _ (hH) (fun hN=>?_)
   clear hK K hH
   have hH:=hN
   clear hN
   try go_simp
   refine tU 18 (.pointer (some ⟨b,141+y,none⟩)) ?_;go_simp
   refine tS 19 (.int .u32 wy) rfl (Or.inl ⟨by rfl,by intro wz hSw;have hc:=hSw.2.2.2.2.2.1;go_simp⟩) hH ?_;go_simp
   refine zC 8 rfl (fun K hK=>?_)
   have hc:=hH.2.2.1
   go_simp
   clear hc
   refine hK.out _ _ (hH) (fun hN=>?_)
   clear hK K hH
   have hH:=hN
   clear hN
   try go_simp
   refine tU 11 (.pointer (some ⟨b,141+x,none⟩)) ?_;go_simp
   refine tS 12 (.int .u32 wx) rfl (Or.inl ⟨by rfl,by intro wz hSw;have hc:=hSw.2.2.2.2.1;go_simp⟩) hH ?_;go_simp
   refine zL 25 rfl (fun K hK=>?_)
   go_simp
   refine(HDO3.out _ S1.out.dr).mono ?_
   rintro e V4 ⟨rfl,hk4⟩
   have HK4:Hid (Below V2.heap.size V2 V4):=zg hk4 (Ak _)
   have S4:Hid (St N V4 b s L):=S1.out.below HK4.out
   go_wp2_with fail
   refine hK.out _ _ ?_
   clear hK K
   try go_simp
   refine zL 26 rfl (fun K hK=>?_)
   go_simp
   refine(HFN3.out _ S4.out).mono ?_
   rintro e V5 ⟨rfl,L5,u1,u2⟩
   rw[<-HR2.out]at u1
   have S5:Hid (St N V5 b r L5):=u1
   have T5:Hid (To b w L V5 L5):=(T1.out.trans (ze L HK4.out)).trans u2
   clear u1 u2
   go_wp2_with fail
   refine hK.out _ _ ?_
   clear hK K
   try go_simp
   refine zE (by kernel_rfl) ?_ _
   clear hH
   go_wp2_with fail
   refine Ab (Aa rfl _ _ _) rfl ⟨rfl,L5,S5.out,T5.out⟩
 ·have hr:=HR.out
  rw[if_pos h0,<-HP1.out]at hr
  have HR2:Hid (r={s with under:=s.under.set j {o with st:=1}}):=hr
  have hgt:(0:Int)<ld:=by omega
  clear hr HR HDO HFN HP1 l0 h0
  have c7:V2.cell? ⟨ug,uo+j*28+7,none⟩=some (.int .i64 o.st):=by
   obtain⟨g',o',cap',ev3,_,_,_,hcs,_⟩:=S1.out.its.iu.at (by have:=(Ad.1 hjo'.out).1;omega)
   obtain⟨rfl,rfl⟩:ug=g'/\uo=o':=by rw[HEU.out]at ev3;injection ev3 with h1 _ _;injection h1 with h1;injection h1 with h1 h2;exact⟨h1,h2⟩
   rw[Ae]
   exact hcs _ _ (qF zF hjo'.out rfl)
  obtain⟨g',o',cap',ev',hth,s2,t2⟩:=S1.out.putU (y:={o with st:=1}) (j:=7) (news:=[.int .i64 1]) hjo'.out (by decide) rfl (by intro u hu;simp at hu;subst hu;rfl)
  obtain⟨rfl,rfl⟩:ug=g'/\uo=o':=by rw[HEU.out]at ev';injection ev' with h1 _ _;injection h1 with h1;injection h1 with h1 h2;exact⟨h1,h2⟩
  rw[<-Ae]at hth s2 t2
  have f7:V2.frozen? ⟨ug,uo+j*28+7,none⟩=false:=(hth 0 (by decide)).2
  rw[<-HR2.out]at s2
  have S3:Hid (St N (V2.setCell ⟨ug,uo+j*28+7,none⟩ (.int .i64 1)) b r L):=s2
  have T3:Hid (To b w L (V2.setCell ⟨ug,uo+j*28+7,none⟩ (.int .i64 1)) L):=T1.out.trans t2
  clear hth s2 t2 ev'
  go_wp2_with fail
  refine bodyPost_ret (Aa rfl _ _ _) rfl ⟨rfl,L,S3.out,T3.out⟩
end Go.Proofs.YtpiohehijkpghacGreatDoor.Co
