/- A core that finishes an instruction: the program. -/
import Derived.Test.YtpiohehijkpghabGreatDoorS40
import Derived.Test.YtpiohehijkpghabGreatDoorS09
set_option maxRecDepth 20000
set_option maxHeartbeats 8000000
set_option linter.unusedSimpArgs false
set_option linter.unusedVariables false
open Go.Proofs.Tryz
namespace Go.Proofs.YtpiohehijkpghabGreatDoor.Co
open Go.RowKit
open Hy
open Wi Od Re.Hy
open Gu.Hy (Tb tcs)
structure SetOk(s:Cr)(m:Nat->Int)(q:Int)(c:Cm):Prop where
 back:BackOk s m
 uq:Uq s.asked
 ask:∀a∈s.asked,a.Ok
 has:∃a∈s.asked,(a.st&&decide (a.seq=q))=true
 of:∀a∈s.asked,∃o∈s.under,a.seq=o.seq
 c:CmR c
theorem BackOk.asks{s:Cr}{m:Nat->Int}(h:BackOk s m){k:List Ac}(hk:k.length<=10000000):BackOk {s with asked:=k} m:=
 ⟨⟨h.bk.olds,h.bk.reg,h.bk.rise,h.bk.slo⟩,h.dis,h.rd,h.low,h.high,h.lenU,hk,h.bck0,h.bck1⟩
theorem zdM{s:Cr}{q:Int}{c:Cm}{k:List Ac}(hk:setA s.asked q (stA q c)=k)(h:lst k (stA q c) k.length=none):settle s q c={s with asked:=k}:=by
 unfold settle
 simp only[hk,h]
theorem zdN{s:Cr}{q:Int}{c:Cm}{k:List Ac}{e:Int}(hk:setA s.asked q (stA q c)=k)(h:lst k (stA q c) k.length=some e):settle s q c=Co.back {s with asked:=k} e (pcOf s.under e):=by
 unfold settle
 simp only[hk,h]
theorem SetOk.early{s:Cr}{m:Nat->Int}{q:Int}{c:Cm}(h:SetOk s m q c){e:Int}(he:lst (setA s.asked q (stA q c)) (stA q c) (setA s.asked q (stA q c)).length=some e):∃l1 o l2,s.under=l1++o::l2/\o.seq=e/\pcOf s.under e=o.pc:=by
 obtain⟨⟨a,ha,hae,_⟩,_⟩:=kv he
 have ho:∃o∈s.under,a.seq=o.seq:=by
  obtain⟨p,hp,rfl⟩:=List.mem_map.1 ha
  split
  ·rename_i hc
   obtain⟨o,ho,e⟩:=h.of p hp
   exact⟨o,ho,by show q=o.seq;rw[<-e,hc.2]⟩
  ·exact h.of p hp
 obtain⟨o,ho,e2⟩:=ho
 obtain⟨l1,l2,hl⟩:=List.append_of_mem ho
 have hs:o.seq=e:=by rw[<-e2,hae]
 refine⟨l1,o,l2,hl,hs,?_⟩
 have hr:=h.back.bk.rise
 rw[hl]at hr
 rw[hl,<-hs]
 exact zhD hr
theorem zdO{N:Nat}{w:World}{b:Nat}{s:Cr}{L:Sls}(S:St N w b s L){m:Nat->Int}(q:Int)(c:Cm)(K:SetOk s m q c):
  Calls prog 102 #[.pointer (some ⟨b,0,none⟩),.int .i64 q,cvC c] w fun e w'=>e=.returned (.tuple #[])/\∃L',St N w' b (settle s q c) L'/\To b w L w' L':=by
 have hmf:∀(fn:Fn) (first cap:Array Value) (w:World),(Instr.makeFunc fn first cap).run prog w=.ok (.func fn first cap) w:=fun _ _ _ _=>rfl
 obtain⟨r,hr⟩:∃r,r=settle s q c:=⟨_,rfl⟩
 rw[<-hr]
 have HR:Hid (r=settle s q c):=hr
 have HK:Hid (SetOk s m q c):=K
 obtain⟨mi,hmi,hml⟩:=zil K.has
 have HM:Hid (FirstA (fun a=>a.st&&decide (a.seq=q)) s.asked mi):=hmi
 obtain⟨k,hk⟩:∃k,k=s.asked.set mi (stA q c):=⟨_,rfl⟩
 have HSA:Hid (setA s.asked q (stA q c)=k):=by show _=_;rw[hk];exact zik K.uq hmi hml _
 obtain⟨hf1,hf2⟩:=zfU hmi hml (e:=stA q c) rfl rfl rfl
 rw[<-hk]at hf1 hf2
 have HF:Hid (FirstA (sto1 q) k mi/\k[mi]?=some (stA q c)):=⟨hf1,hf2⟩
 have hkl:k.length=s.asked.length:=by rw[hk,List.length_set]
 have HKL:Hid (k.length=s.asked.length):=hkl
 have HKK:Hid (k=s.asked.set mi (stA q c)):=hk
 have hlA:=K.back.lenA
 clear hr hk hf1 hf2 hkl K hmi
 go_enter func102,ntmps102
 go_upto_region 1 with fail
 refine Wi.qH (Φ:=fun W=>Code.wp _ _ _ _ W) ?_
 intro V h1 h2 hb hs
 have cz:V.cell? ⟨w.heap.size,0,none⟩=some (.int .i64 q):=by rw[cell_of_row _ _ _ _ _ _ h1];rfl
 have CV:Hid (Cb V (w.heap.size+1) c):=h2
 have SV:Hid (St N V b s L):=S.below hb
 have TV:Hid (To b w L V L):=ze L hb
 have hzb:Hid (¬own b L w.heap.size):=fun h=>by have:=qR S h;omega
 have hpb:Hid (¬own b L (w.heap.size+1)):=fun h=>by have:=qR S h;omega
 clear h1 h2 hb hs S
 generalize w.heap.size+1=p at*
 generalize w.heap.size=z at*
 obtain⟨x0,hx0⟩:∃x0,s.asked[mi]?=some x0:=⟨_,List.getElem?_eq_getElem hml⟩
 obtain⟨ag,ao,ac,eav,hac,_,hag,hacs,_⟩:=SV.out.its.ia.at (by omega)
 obtain⟨n,hn⟩:∃n,n=s.asked.length:=⟨_,rfl⟩
 have HN:Hid (n=s.asked.length):=hn
 rw[<-hn]at eav hac hml hlA HKL
 have HAV:Hid (L.a=.slice (some ⟨ag,ao,none⟩) n ac):=eav
 have k335:V.cell? ⟨b,335,none⟩=some (.slice (some ⟨ag,ao,none⟩) n ac):=(zb SV.out.row (by omega)).trans (congrArg some eav)
 have HU:Hid (LC V (some ⟨ag,ao,none⟩) n ac 7 (acs s.asked)):=by
  have:=SV.out.its.ia
  rw[eav,<-hn]at this
  rw[xB]
  exact this.lc
 have CI:Hid (∀W,Below V.heap.size V W->Calls prog 66 #[.slice (some ⟨ag,ao,none⟩) n ac,.func (.func 133) #[] #[.pointer (some ⟨z,0,none⟩)]] W fun e w'=>e=.returned (.int .i64 (mi:Int))/\Below W.heap.size W w'):=fun W hW=>
  qj 133 z (fun a=>a.st&&decide (a.seq=q)) zfY (some ⟨ag,ao,none⟩) n ac (by omega) s.asked mi HM (mi:Int) (by show _=_;rw[if_pos hml]) W (HU.out.below (Nat.le_refl _) hW) (fun W' o hW'=>zcK z q W' o (zn hW' (zn hW cz)))
 clear hacs hag hn eav
 go_wp2_with fail
 refine(CI.out _ (Below.refl _ _)).mono ?_
 rintro e V1 ⟨rfl,hk1⟩
 have S1:Hid (St N V1 b s L):=SV.out.below hk1
 have T1:Hid (To b w L V1 L):=TV.out.trans (ze L hk1)
 have C1:Hid (Cb V1 p c):=CV.out.below hk1
 have cz1:V1.cell? ⟨z,0,none⟩=some (.int .i64 q):=zn hk1 cz
 have k335b:V1.cell? ⟨b,335,none⟩=some (.slice (some ⟨ag,ao,none⟩) n ac):=zn hk1 k335
 clear hk1 CI SV TV CV cz k335 HU
 obtain⟨g',o',cap',ev',hth,s2,t2⟩:=S1.out.dr.putA (y:=stA q c) hx0 (jW _)
 obtain⟨rfl,rfl⟩:ag=g'/\ao=o':=by rw[HAV.out]at ev';injection ev' with h1 _ _;injection h1 with h1;injection h1 with h1 h2;exact⟨h1,h2⟩
 rw[<-HKK.out]at s2
 have HTH:Hid (V1.drew.there ag (ao+mi*7) 7):=hth
 have S2:Hid (St N (V1.drew.setCells ag (ao+mi*7) (cel (stA q c))) b {s with asked:=k} L):=s2
 have t2':Hid (To b V1.drew L (V1.drew.setCells ag (ao+mi*7) (cel (stA q c))) L):=t2
 have m0:0<=(mi:Int):=by omega
 have m1:(mi:Int)<(n:Int):=by omega
 have c6:V1.cell? ⟨p,6,none⟩=some (.int .u32 c.pl):=qT C1.out 6 rfl
 have c7:V1.cell? ⟨p,7,none⟩=some (.int .i64 c.many):=qT C1.out 7 rfl
 have c8:V1.cell? ⟨p,8,none⟩=some (.int .u32 c.data):=qT C1.out 8 rfl
 clear hth s2 t2 ev' hx0
 go_upto_region 2 with fail
 refine zx (S:=fun w'=>w'.cell? ⟨b,335,none⟩=some (.slice (some ⟨ag,ao,none⟩) n ac)/\w'.cell? ⟨z,0,none⟩=some (.int .i64 q)/\w'.cell? ⟨p,6,none⟩=some (.int .u32 c.pl)/\w'.cell? ⟨p,7,none⟩=some (.int .i64 c.many)/\w'.cell? ⟨p,8,none⟩=some (.int .u32 c.data)) [14] (by kernel_rfl) (⟨k335b,cz1,c6,c7,c8⟩) (fun hH=>?_)
 refine tU 0 (.pointer (some ⟨b,0,none⟩)) rfl hH ?_;try go_simp
 refine tU 1 (.pointer (some ⟨b,0,none⟩)) rfl hH ?_;try go_simp
 refine tU 2 (.pointer (some ⟨b,335,none⟩)) rfl hH ?_;try go_simp
 refine tS 3 (.slice (some ⟨ag,ao,none⟩) n ac) rfl (Or.inl ⟨by rfl,by intro wz hSw;have hc:=hSw.1;go_simp⟩) hH ?_;try go_simp
 refine tU 4 (.int .i64 (mi:Int)) rfl hH ?_;try go_simp
 refine tS 5 (.int .i64 q) rfl (Or.inl ⟨by rfl,by intro wz hSw;have hc:=hSw.2.1;go_simp⟩) hH ?_;try go_simp
 refine tU 6 (.pointer (some ⟨p,6,none⟩)) rfl hH ?_;try go_simp
 refine tS 7 (.int .u32 c.pl) rfl (Or.inl ⟨by rfl,by intro wz hSw;have hc:=hSw.2.2.1;go_simp⟩) hH ?_;try go_simp
 refine tU 8 (.pointer (some ⟨p,7,none⟩)) rfl hH ?_;try go_simp
 refine tS 9 (.int .i64 c.many) rfl (Or.inl ⟨by rfl,by intro wz hSw;have hc:=hSw.2.2.2.1;go_simp⟩) hH ?_;try go_simp
 refine tU 10 (.pointer (some ⟨p,8,none⟩)) rfl hH ?_;try go_simp
 refine tS 11 (.int .u32 c.data) rfl (Or.inl ⟨by rfl,by intro wz hSw;have hc:=hSw.2.2.2.2;go_simp⟩) hH ?_;try go_simp
 refine tU 12 (.agg #[.int .i64 q,.bool true,.bool true,.int .u32 c.pl,.int .i64 c.many,.int .u32 c.data,.bool false]) rfl hH ?_;try go_simp
 refine tU 13 (.pointer (some ⟨ag,ao+mi*7,none⟩)) rfl hH ?_;try go_simp
 refine zL 14 rfl (fun K hK=>?_)
 rw[if_pos (by rfl)]
 refine wp_store_mid 100 _ _ rfl ag (ao+mi*7) ((cel (stA q c)).toArray) rfl rfl (HTH.out) (zeL _) (zeM _) ?_
 refine hK.out _ _ ?_
 clear hK K
 try go_simp
 refine zJ (by kernel_rfl) ?_ _
 have T2:Hid (To b w L (V1.drew.setCells ag (ao+mi*7) (cel (stA q c))) L):=T1.out.dr.trans t2'.out
 have cz2:(V1.drew.setCells ag (ao+mi*7) (cel (stA q c))).cell? ⟨z,0,none⟩=some (.int .i64 q):=qY (w:=V1.drew) cz1 t2'.out hzb.out
 have C2:Hid (Cb (V1.drew.setCells ag (ao+mi*7) (cel (stA q c))) p c):=Cb.to (w:=V1.drew) C1.out t2'.out hpb.out
 clear hH HTH t2' S1 T1 C1 cz1 k335b c6 c7 c8 m0 m1
 generalize V1.drew.setCells ag (ao+mi*7) (cel (stA q c))=V2 at*
 have k335:V2.cell? ⟨b,335,none⟩=some (.slice (some ⟨ag,ao,none⟩) n ac):=(zb S2.out.row (by omega)).trans (congrArg some HAV.out)
 obtain⟨y0,f0,hT⟩:∃y0 f0,Od.Told (lst k (stA q c) n) y0 f0:=⟨_,_,rfl,rfl⟩
 have CW:Hid (∀W,Below V2.heap.size V2 W->Calls prog 134 #[.slice (some ⟨ag,ao,none⟩) n ac,.int .i64 q] W fun e w'=>e=.returned (.tuple #[.int .i64 y0,.bool f0])/\Below W.heap.size W w'):=fun W hW=>by
  refine zfD (some ⟨ag,ao,none⟩) n ac q k (fun a ha=>?_) mi HF.out.1 hml (stA q c) HF.out.2 y0 f0 hT (by omega) W ?_
  ·rw[<-HSA.out]at ha
   obtain⟨p',hp',rfl⟩:=List.mem_map.1 ha
   split
   ·exact zkR HK.out.c
   ·exact HK.out.ask p' hp'
  ·have:=S2.out.its.ia
   rw[HAV.out]at this
   have h2:(({s with asked:=k}:Cr).asked).length=n:=HKL.out
   rw[h2]at this
   rw[xB]
   exact(this.below hW).lc
 have HT:Hid (Od.Told (lst k (stA q c) n) y0 f0):=hT
 clear hT
 go_upto_region 3 with fail
 refine zx (S:=fun w'=>w'.cell? ⟨b,335,none⟩=some (.slice (some ⟨ag,ao,none⟩) n ac)/\w'.cell? ⟨z,0,none⟩=some (.int .i64 q)) [] (by kernel_rfl) (⟨k335,cz2⟩) (fun hH=>?_)
 refine tU 0 (.pointer (some ⟨b,0,none⟩)) rfl hH ?_;try go_simp
 refine tU 1 (.pointer (some ⟨b,0,none⟩)) rfl hH ?_;try go_simp
 refine tU 2 (.pointer (some ⟨b,335,none⟩)) rfl hH ?_;try go_simp
 refine tS 3 (.slice (some ⟨ag,ao,none⟩) n ac) rfl (Or.inl ⟨by rfl,by intro wz hSw;have hc:=hSw.1;go_simp⟩) hH ?_;try go_simp
 refine tS 4 (.int .i64 q) rfl (Or.inl ⟨by rfl,by intro wz hSw;have hc:=hSw.2;go_simp⟩) hH ?_;try go_simp
 refine zC 5 rfl (fun K hK=>?_)
 go_simp
 refine(CW.out _ ((Below.refl _ _).drew)).mono ?_
 rintro e V3 ⟨rfl,hk3⟩
 have HK3:Hid (Below V2.heap.size V2 V3):=zi hk3 (Nat.le_refl _)
 go_wp2_with fail
 refine hK.out _ _ (⟨zn hk3 (hH.1),zn hk3 (hH.2)⟩) (fun hN=>?_)
 clear hK K hH
 have hH:=hN
 clear hN
 try go_simp
 refine tU 6 (.tuple #[.int .i64 y0,.bool f0]) rfl hH ?_;try go_simp
 refine tU 7 (.int .i64 y0) rfl hH ?_;try go_simp
 refine tU 8 (.bool f0) rfl hH ?_;try go_simp
 refine tU 9 (.int .i64 y0) rfl hH ?_;try go_simp
 refine tU 10 (.bool f0) rfl hH ?_;try go_simp
 refine zJ (by kernel_rfl) ?_ _
 have S3:Hid (St N V3 b {s with asked:=k} L):=S2.out.below HK3.out
 have T3:Hid (To b w L V3 L):=T2.out.trans (ze L HK3.out)
 clear hH CW S2 T2 C2 cz2 k335 HK3
 cases hls:lst k (stA q c) n with
 |none=>
  rw[hls]at HT
  obtain⟨rfl,rfl⟩:=HT.out.none'
  have hr:r={s with asked:=k}:=by rw[HR.out];exact zdM HSA.out (by rw[HKL.out];exact hls)
  subst hr
  clear hls HT HR
  go_wp2_with fail
  refine bodyPost_end (results_none rfl _ _ _) rfl ⟨rfl,L,S3.out,T3.out⟩
 |some e=>
  rw[hls]at HT
  obtain⟨hy,rfl⟩:=HT.out.some'
  have hls2:lst (setA s.asked q (stA q c)) (stA q c) (setA s.asked q (stA q c)).length=some e:=by rw[HSA.out,HKL.out];exact hls
  obtain⟨l1,o,l2,hu,hos,hpc⟩:=HK.out.early hls2
  have hr:r=Co.back {s with asked:=k} y0 o.pc:=by rw[HR.out,zdN HSA.out (by rw[HKL.out];exact hls),hpc,hy]
  have HR2:Hid (r=Co.back {s with asked:=k} y0 o.pc):=hr
  have HOS:Hid (o.seq=y0):=hos.trans hy.symm
  have HU:Hid (s.under=l1++o::l2):=hu
  obtain⟨j,hj⟩:∃j,j=l1.length:=⟨_,rfl⟩
  have hjl:j<s.under.length:=by rw[hu,hj];simp
  have CF:Hid (∀W,Below V3.heap.size V3 W->Calls prog 45 #[.pointer (some ⟨b,0,none⟩),.int .i64 y0] W fun e w'=>e=.returned (.int .i64 (j:Int))/\Below W.heap.size W w'):=fun W hW=>by
   have:=qx (S3.out.below hW) y0 j (by show FirstD _ s.under j;rw[<-HOS.out,hj];exact jl hu HK.out.back.bk.rise) (by show s.under.length<=_;have:=HK.out.back.lenU;omega)
   rw[if_pos (show j<({s with asked:=k}:Cr).under.length from hjl)]at this
   exact this
  have CB:Hid (∀W,Below V3.heap.size V3 W->Calls prog 104 #[.pointer (some ⟨b,0,none⟩),.int .i64 y0,.int .u32 o.pc] W fun e w'=>e=.returned (.tuple #[])/\∃L',St N w' b r L'/\To b W L w' L'):=fun W hW=>by
   rw[hr]
   exact vI (S3.out.below hW) (HK.out.back.asks (by rw[HKL.out];omega)) y0 o.pc
  obtain⟨ug,uo,uc,euv,huc,_,hug,hucs,_⟩:=S3.out.its.iu.at (show 0<s.under.length by omega)
  obtain⟨un,hun⟩:∃un,un=s.under.length:=⟨_,rfl⟩
  have k334:V3.cell? ⟨b,334,none⟩=some (.slice (some ⟨ug,uo,none⟩) un uc):=(zb S3.out.row (by omega)).trans (congrArg some (by rw[hun];exact euv))
  have cpc:V3.cell? ⟨ug,uo+j*28+1,none⟩=some (.int .u32 o.pc):=by
   rw[Nat.add_assoc]
   exact hucs _ _ (qJ zP (l:=s.under) (k:=j) (x:=o) (by rw[hu,hj];simp) rfl)
  have j0:0<=(j:Int):=by omega
  have j1:(j:Int)<(un:Int):=by omega
  clear hls HT HR hls2 hu hos hpc hr hj hjl euv hucs hug hun hy huc
  go_upto_region 5 with fail
  refine zx (S:=fun w'=>w'.cell? ⟨b,334,none⟩=some (.slice (some ⟨ug,uo,none⟩) un uc)/\w'.cell? ⟨ug,uo+j*28+1,none⟩=some (.int .u32 o.pc)) [12] (by kernel_rfl) (⟨k334,cpc⟩) (fun hH=>?_)
  refine tU 0 (.pointer (some ⟨b,0,none⟩)) rfl hH ?_;try go_simp
  refine tU 1 (.int .i64 y0) rfl hH ?_;try go_simp
  refine tU 2 (.pointer (some ⟨b,0,none⟩)) rfl hH ?_;try go_simp
  refine tU 3 (.pointer (some ⟨b,0,none⟩)) rfl hH ?_;try go_simp
  refine tU 4 (.pointer (some ⟨b,334,none⟩)) rfl hH ?_;try go_simp
  refine tU 6 (.pointer (some ⟨b,0,none⟩)) rfl hH ?_;try go_simp
  refine tU 7 (.int .i64 y0) rfl hH ?_;try go_simp
  refine rZ [5,8] ?_
  refine(zu.cons rfl (fun K hK=>?_) (zu.cons rfl (fun K hK=>?_) zu.nil))
  ·have hc:=hH.1
   go_simp
   clear hc
   refine hK.out _ _ (hH) (fun hN=>?_)
   clear hK K hH
   have hH:=hN
   clear hN
   try go_simp
   refine zC 8 rfl (fun K hK=>?_)
   go_simp
   refine(CF.out _ ((Below.refl _ _).drew)).mono ?_
   rintro e V4 ⟨rfl,hk4⟩
   have HK4:Hid (Below V3.heap.size V3 V4):=zi hk4 (Nat.le_refl _)
   go_wp2_with fail
   refine hK.out _ _ (⟨zn hk4 (hH.1),zn hk4 (hH.2)⟩) (fun hN=>?_)
   clear hK K hH
   have hH:=hN
   clear hN
   try go_simp
   refine tU 9 (.pointer (some ⟨ug,uo+j*28,none⟩)) rfl hH ?_;try go_simp
   refine tU 10 (.pointer (some ⟨ug,uo+j*28+1,none⟩)) rfl hH ?_;try go_simp
   refine tS 11 (.int .u32 o.pc) rfl (Or.inl ⟨by rfl,by intro wz hSw;have hc:=hSw.2;go_simp⟩) hH ?_;try go_simp
   refine zL 12 rfl (fun K hK=>?_)
   go_simp
   refine(CB.out _ HK4.out).mono ?_
   rintro e V5 ⟨rfl,L5,u1,u2⟩
   have S5:Hid (St N V5 b r L5):=u1
   have T5:Hid (To b w L V5 L5):=(T3.out.trans (ze L HK4.out)).trans u2
   clear u1 u2
   go_wp2_with fail
   refine hK.out _ _ ?_
   clear hK K
   try go_simp
   refine zJ (by kernel_rfl) ?_ _
   clear hH
   go_wp2_with fail
   refine bodyPost_end (results_none rfl _ _ _) rfl ⟨rfl,L5,S5.out,T5.out⟩
  ·go_simp
   refine(CF.out _ ((Below.refl _ _).drew)).mono ?_
   rintro e V4 ⟨rfl,hk4⟩
   have HK4:Hid (Below V3.heap.size V3 V4):=zi hk4 (Nat.le_refl _)
   go_wp2_with fail
   refine hK.out _ _ (⟨zn hk4 (hH.1),zn hk4 (hH.2)⟩) (fun hN=>?_)
   clear hK K hH
   have hH:=hN
   clear hN
   try go_simp
   refine zC 5 rfl (fun K hK=>?_)
   have hc:=hH.1
   go_simp
   clear hc
   refine hK.out _ _ (hH) (fun hN=>?_)
   clear hK K hH
   have hH:=hN
   clear hN
   try go_simp
   refine tU 9 (.pointer (some ⟨ug,uo+j*28,none⟩)) rfl hH ?_;try go_simp
   refine tU 10 (.pointer (some ⟨ug,uo+j*28+1,none⟩)) rfl hH ?_;try go_simp
   refine tS 11 (.int .u32 o.pc) rfl (Or.inl ⟨by rfl,by intro wz hSw;have hc:=hSw.2;go_simp⟩) hH ?_;try go_simp
   refine zL 12 rfl (fun K hK=>?_)
   go_simp
   refine(CB.out _ HK4.out).mono ?_
   rintro e V5 ⟨rfl,L5,u1,u2⟩
   have S5:Hid (St N V5 b r L5):=u1
   have T5:Hid (To b w L V5 L5):=(T3.out.trans (ze L HK4.out)).trans u2
   clear u1 u2
   go_wp2_with fail
   refine hK.out _ _ ?_
   clear hK K
   try go_simp
   refine zJ (by kernel_rfl) ?_ _
   clear hH
   go_wp2_with fail
   refine bodyPost_end (results_none rfl _ _ _) rfl ⟨rfl,L5,S5.out,T5.out⟩
theorem zmO{s:Cr}{m:Nat->Int}(h:BackOk s m)(hb:s.bck<10000000)(e pc:Int):BackOk (Co.back s e pc) m:=by
 obtain⟨l1,l2,hu,h1,h2⟩:=xy e h.bk.rise
 have hl:=h.lenU
 have hd:=h.dis
 have hr:=h.bk.rise
 have ho:=h.bk.olds
 have hrd:=h.rd
 rw[hu]at hl hd hr ho hrd
 rw[qm,List.append_assoc]at hd
 rw[zbi h.bk hu e pc h1 h2]
 refine⟨⟨(xx.1 ho).1,rfl,(zG.1 hr).1,rfl⟩,hd,fun o ho=>hrd o (List.mem_append_left _ ho),h.low,h.high,?_,?_,?_,?_⟩
 ·show l1.length<=_
  rw[List.length_append]at hl
  omega
 ·have:=h.lenA
  have:=List.length_filter_le (fun a:Ac=>!decide (e<=a.seq)) s.asked
  show(s.asked.filter _).length<=_
  omega
 ·have:=h.bck0
  show 0<=if l2=[]then s.bck else s.bck+1
  split<;>omega
 ·have:=h.bck1
  show(if l2=[]then s.bck else s.bck+1)<=_
  split<;>omega
theorem ziv{s:Cr}{m:Nat->Int}{q:Int}{c:Cm}(h:SetOk s m q c)(hb:s.bck<10000000):BackOk (settle s q c) m:=by
 have hk:(setA s.asked q (stA q c)).length<=10000000:=by rw[zeI];exact h.back.lenA
 unfold settle
 simp only[]
 split
 ·exact h.back.asks hk
 ·exact zmO (h.back.asks hk) hb _ _
theorem zmP{s:Cr}{m:Nat->Int}(h:BackOk s m)(o:Dg)(c:Cm):BackOk (jc s o c) m:=by
 rw[jY]
 exact⟨⟨h.bk.olds,h.bk.reg,h.bk.rise,h.bk.slo⟩,h.dis,h.rd,h.low,h.high,h.lenU,h.lenA,h.bck0,h.bck1⟩
def fin0(s:Cr)(o:Dg)(c:Cm):Cr:={s with under:=putO s.under o.seq (fun o=>{o with st:=2,c:=c}),slots:=donS s.slots o.seq}
theorem ziw(s:Cr)(o:Dg)(c:Cm):fin1 s o c=if sts o.i then settle (fin0 s o c) o.seq c else fin0 s o c:=rfl
theorem zix{K:Int}{s:Cr}{m:Nat->Int}(A:Al mach K s m)(hK:K<=9000000){l1 l2:List Dg}{o:Dg}(hu:s.under=l1++o::l2)(h2:o.st≠2)(c:Cm):BackOk (fin0 s o c) m:=by
 have hr:Rise (l1++o::l2):=hu▸A.inv.rise
 have hun:putO s.under o.seq (fun o=>{o with st:=2,c:=c})=l1++{o with st:=2,c:=c}::l2:=by rw[hu];exact vq hr _
 have hsl:donS s.slots o.seq=(l1++{o with st:=2,c:=c}::l2).map slot:=by
  rw[A.inv.slo,hu]
  exact zdu hr (by show(o.seq,decide ((2:Int)=2))=_;rfl)
 have hmE:mE m (l1++{o with st:=2,c:=c}::l2)=s.regs:=by
  rw[<-A.inv.reg,hu,ku,ku]
  exact zhA rfl rfl
 have hol:Olds m (l1++o::l2):=vp (hu▸A.inv.ch)
 have htos:tos (l1++{o with st:=2,c:=c}::l2)=tos s.under:=by rw[hu,qm,qm];rfl
 have hlen:=A.len
 rw[hu]at hlen
 have h3:=A.rg.lenA
 have h4:=A.rg.bck
 unfold fin0
 rw[hun,hsl]
 refine⟨⟨zbj hol rfl rfl rfl,hmE,kC hr rfl,rfl⟩,?_,fun q hq=>?_,A.low,A.rg.phys,?_,?_,A.bck,?_⟩
 ·show Dis s.phys m (tos (l1++_::l2)++s.free)
  rw[htos]
  exact A.inv.dis
 ·have hrd:=zen zR A.inv.ch
  rw[hu]at hrd
  rcases List.mem_append.1 hq with h|h
  ·exact hrd q (List.mem_append_left _ h)
  ·rcases List.mem_cons.1 h with h|h
   ·rw[h];exact hrd o (by simp)
   ·exact hrd q (List.mem_append_right _ (List.mem_cons_of_mem _ h))
 ·simp at hlen⊢
  omega
 ·show s.asked.length<=_
  omega
 ·show s.bck<=_
  omega
theorem zeN{K:Int}{s:Cr}{m:Nat->Int}(A:Al mach K s m)(hK:K<=9000000){l1 l2:List Dg}{o:Dg}(hu:s.under=l1++o::l2)(h2:o.st≠2){c:Cm}(hc:CmR c)(hs:sts o.i=true):SetOk (fin0 s o c) m o.seq c:=by
 have ho:o∈s.under:=by rw[hu];simp
 refine⟨zix A hK hu h2 c,A.uq,A.rg.ask,⟨entA o,A.inv.ask.sto o ho hs,?_⟩,fun a ha=>?_,hc⟩
 ·unfold entA
  rw[if_neg h2]
  simp[st0]
 ·obtain⟨p,hp,e,_⟩:=A.inv.ask.of a ha
  refine⟨if p.seq=o.seq then{p with st:=2,c:=c}else p,List.mem_map.2 ⟨p,hp,rfl⟩,?_⟩
  rw[e]
  split<;>rfl
theorem zmQ{K:Int}{s:Cr}{m:Nat->Int}(A:Al mach K s m)(hK:K<=9000000){l1 l2:List Dg}{o:Dg}(hu:s.under=l1++o::l2)(h2:o.st≠2){c:Cm}(hc:CmR c):BackOk (fin1 s o c) m:=by
 have h4:=A.rg.bck
 rw[ziw]
 split
 ·rename_i hs
  exact ziv (zeN A hK hu h2 hc hs) (by show s.bck<_;omega)
 ·exact zix A hK hu h2 c
theorem zki{s:Cr}{l1 l2:List Dg}{o:Dg}(hu:s.under=l1++o::l2)(hr:Rise s.under)(c:Cm):{({s with under:=s.under.set l1.length {o with st:=2,c:=c}}:Cr)with slots:=donS s.slots o.seq}=fin0 s o c:=by
 unfold fin0
 rw[(zdJ hu hr (fun o=>{o with st:=2,c:=c})).1]
theorem zkj{K:Int}{s:Cr}{m:Nat->Int}(A:Al mach K s m){o:Dg}(ho:o∈s.under){c:Cm}(hc:CmIs s.n o.i o.pc c):c.rd≠0->0<=o.to/\o.to<96:=fun h=>by
 obtain⟨l1,l2,hu,hloc⟩:=xk A.inv.ch ho
 obtain⟨_,_,_,h4⟩:=kJ zR A.inv ho A.rg.phys
 refine h4 ?_
 rw[hloc.rd]
 by_cases h0:c.st=0
 ·rw[<-hc.gives h0];exact h
 ·exact absurd (hc.stops h0).2.1 h
theorem zkk{l:List Dg}{k:Nat}(x y:Dg):(l.set k x).set k y=l.set k y:=List.set_set ..
theorem xV{N:Nat}{w:World}{b:Nat}{s:Cr}{L:Sls}(S:St N w b s L){m:Nat->Int}{K:Int}(A:Al mach K s m)(hK:K<=8000000){l1 l2:List Dg}{o:Dg}(hu:s.under=l1++o::l2)(h2:o.st≠2){c:Cm}(hc:CmIs s.n o.i o.pc c)(hr:CmR c):
  Calls prog 72 #[.pointer (some ⟨b,0,none⟩),.int .i64 (l1.length:Int),cvC c] w fun e w'=>e=.returned (.tuple #[])/\∃L',St N w' b (finish s o c) L'/\To b w L w' L':=by
 have ho:o∈s.under:=by rw[hu];simp
 have HB1:Hid (BackOk (jc (fin1 s o c) o c) m):=zmP (zmQ A (by omega) hu h2 hr) o c
 have HSET:Hid (sts o.i=true->SetOk (fin0 s o c) m o.seq c):=fun h=>zeN A (by omega) hu h2 hr h
 have HTO:Hid (c.rd≠0->0<=o.to/\o.to<96):=zkj A ho hc
 have HDN:Hid (DonAt s.slots o.seq l1.length):=by show DonAt _ _ _;rw[A.inv.slo];exact zmD hu A.inv.rise h2
 have HF0:Hid ({({s with under:=s.under.set l1.length {o with st:=2,c:=c}}:Cr)with slots:=donS s.slots o.seq}=fin0 s o c):=zki hu A.inv.rise c
 have hjo:s.under[l1.length]?=some o:=by rw[hu];simp
 have hjl:l1.length<s.under.length:=(List.getElem?_eq_some_iff.1 hjo).1
 have hln:=A.len
 have hlow:=(A.inv.low o ho)
 have htk:=A.rg.tak
 have q0:0<=o.seq:=hlow.1
 have q1:o.seq<=9000000:=by omega
 have hsl:s.slots.length<=100000:=by have:=A.rg.len;omega
 obtain⟨r,hrr⟩:∃r,r=finish s o c:=⟨_,rfl⟩
 rw[<-hrr]
 have HR:Hid (r=finish s o c):=hrr
 obtain⟨j,hj⟩:∃j,j=l1.length:=⟨_,rfl⟩
 rw[<-hj]at HDN HF0 hjo hjl⊢
 obtain⟨D,hD⟩:∃D,D=(dgl o).toArray:=⟨_,rfl⟩
 have HD:Hid (D=(dgl o).toArray):=hD
 have HI:Hid ((prog.info? 97).map (·.size)=some D.size/\28=D.size/\D.all (·.oneCell')=true):=by rw[hD];exact⟨zN o,rfl,jd o⟩
 clear hrr hu h2 hc hr A ho hj hlow htk hD
 go_enter func72,ntmps72
 go_upto_region 1 with fail
 refine Wi.zA (Φ:=fun W=>Code.wp _ _ _ _ W) ?_
 intro V h1 hb
 have CV:Hid (Cb V w.heap.size c):=h1
 have SV:Hid (St N V b s L):=S.below hb
 have TV:Hid (To b w L V L):=ze L hb
 have hpo:Hid (¬own b L w.heap.size):=fun h=>by have:=qR S h;omega
 clear h1 hb S
 generalize w.heap.size=p at*
 obtain⟨ug,uo,uc,euv,huc,_,hug,hucs,_⟩:=SV.out.its.iu.at (by omega)
 have k334:V.cell? ⟨b,334,none⟩=some (.slice (some ⟨ug,uo,none⟩) s.under.length uc):=(zb SV.out.row (by omega)).trans (congrArg some euv)
 have HRg:Hid (V.rangeAt ug (uo+j*28) (dgl o)):=by
  intro i v hv
  rw[Nat.add_assoc]
  exact hucs _ _ (qJ zP hjo hv)
 have HEU:Hid (L.u=.slice (some ⟨ug,uo,none⟩) s.under.length uc):=euv
 obtain⟨un,hun⟩:∃un,un=s.under.length:=⟨_,rfl⟩
 rw[<-hun]at k334 HEU huc hjl hln
 have j0:0<=(j:Int):=by omega
 have j1:(j:Int)<(un:Int):=by omega
 have hjo':Hid (s.under[j]?=some o):=hjo
 clear euv hucs hug hun hjo
 go_upto_region 2 with(first|(refine wpList_load_mid rfl 97 _ rfl ug (uo+j*28) rfl (dgl o) _ HRg.out underlying97 rfl qv ?_;rw[<-HD.out])|(refine wpList_store_row rfl 97 _ _ rfl _ _ rfl rfl 97 _ (heap_alloc_new _ _) HI.out.1 HI.out.2.1 HI.out.2.2 ?_;rw[World.setRow_alloc_new]))
 refine Wi.zA (Φ:=fun W=>Code.wp _ _ _ _ W) ?_
 intro V1 h1 hb
 have B1:Hid (Bx V1 V.heap.size o):=by show _=_;rw[h1,HD.out]
 have C1:Hid (Cb V1 p c):=CV.out.below hb
 have S1:Hid (St N V1 b s L):=SV.out.below hb
 have T1:Hid (To b w L V1 L):=TV.out.trans (ze L hb)
 have hzo:Hid (¬own b L V.heap.size):=fun h=>by have:=qR SV.out h;omega
 clear h1 hb CV SV TV k334 HRg
 generalize V.heap.size=z at*
 have k334:V1.cell? ⟨b,334,none⟩=some (.slice (some ⟨ug,uo,none⟩) un uc):=(zb S1.out.row (by omega)).trans (congrArg some HEU.out)
 have hub:ug≠b:=(S1.out.apart.2.1 ug (by rw[HEU.out];rfl)).2.2
 have hup:ug≠p:=fun e=>hpo.out (.inr (.inr (.inl (by rw[HEU.out,e];rfl))))
 obtain⟨g',o',cap',ev',hth,s2,t2⟩:=S1.out.dr.putU (y:={o with st:=2}) (j:=7) (news:=[.int .i64 2]) hjo'.out (by decide) rfl (by intro u hu;simp at hu;subst hu;rfl)
 obtain⟨rfl,rfl⟩:ug=g'/\uo=o':=by rw[HEU.out]at ev';injection ev' with h1 _ _;injection h1 with h1;injection h1 with h1 h2;exact⟨h1,h2⟩
 obtain⟨g',o',cap',ev2,hth2,s3,t3⟩:=s2.putU (y:={o with st:=2,c:=c}) (j:=17) (news:=(cC c).toList) (k:=j) (x:={o with st:=2}) (by rw[List.getElem?_set,if_pos rfl,if_pos (by have:=(List.getElem?_eq_some_iff.1 hjo'.out).1;exact this)]) (by simp[cC]) rfl (by intro u hu;exact Array.all_eq_true_iff_forall_mem.1 (vA c) u (by simpa using hu))
 obtain⟨rfl,rfl⟩:ug=g'/\uo=o':=by rw[HEU.out]at ev2;injection ev2 with h1 _ _;injection h1 with h1;injection h1 with h1 h2;exact⟨h1,h2⟩
 rw[zkk]at s3
 rw[<-Nat.add_assoc]at hth hth2 s3 t3 t2
 rw[<-Nat.add_assoc]at hth2 s3 t3
 obtain⟨W2,hW2⟩:∃W2,W2=V1.drew.setCell ⟨ug,uo+j*28+7,none⟩ (.int .i64 2):=⟨_,rfl⟩
 have hW2':W2=(V1.setCell ⟨ug,uo+j*28+7,none⟩ (.int .i64 2)).drew:=by rw[hW2];first|rfl|simp
 obtain⟨W3,hW3⟩:∃W3,W3=W2.setCells ug (uo+j*28+17) (cC c).toList:=⟨_,rfl⟩
 have HTH2:Hid (W2.there ug (uo+j*28+17) (cC c).size):=by rw[hW2];exact hth2
 have S3:Hid (St N W3 b {s with under:=s.under.set j {o with st:=2,c:=c}} L):=by rw[hW3,hW2];exact s3
 have T3:Hid (To b w L W3 L):=by rw[hW3,hW2];exact T1.out.dr.trans (t2.trans t3)
 have t13:To b V1 L W3 L:=by rw[hW3,hW2];exact(To.dr (To.refl b V1 L)).trans (t2.trans t3)
 have B3:Hid (Bx W3 z o):=B1.out.to t13 hzo.out
 have C3:Hid (Cb W3 p c):=C1.out.to t13 hpo.out
 have HW2:Hid (W2=(V1.setCell ⟨ug,uo+j*28+7,none⟩ (.int .i64 2)).drew):=hW2'
 have HW3:Hid (W3=W2.setCells ug (uo+j*28+17) (cC c).toList):=hW3
 have c7:V1.cell? ⟨ug,uo+j*28+7,none⟩=some (.int .i64 o.st):=by
  obtain⟨g',o',cap',ev3,_,_,_,hcs,_⟩:=S1.out.its.iu.at (by have:=(List.getElem?_eq_some_iff.1 hjo'.out).1;omega)
  obtain⟨rfl,rfl⟩:ug=g'/\uo=o':=by rw[HEU.out]at ev3;injection ev3 with h1 _ _;injection h1 with h1;injection h1 with h1 h2;exact⟨h1,h2⟩
  rw[Nat.add_assoc]
  exact hcs _ _ (qJ zP hjo'.out rfl)
 have f7:V1.frozen? ⟨ug,uo+j*28+7,none⟩=false:=(hth 0 (by decide)).2
 clear hth hth2 s2 s3 t2 t3 t13 ev' ev2 hW2 hW2' hW3
 refine zx (S:=fun w'=>w'.cell? ⟨b,334,none⟩=some (.slice (some ⟨ug,uo,none⟩) un uc)/\w'.rangeAt p 0 ((cC c).toList)) [16] (by kernel_rfl) (⟨k334,ziu C1.out⟩) (fun hH=>?_)
 refine tU 0 (.pointer (some ⟨b,0,none⟩)) rfl hH ?_;try go_simp
 refine tU 1 (.pointer (some ⟨b,0,none⟩)) rfl hH ?_;try go_simp
 refine tU 2 (.pointer (some ⟨b,334,none⟩)) rfl hH ?_;try go_simp
 refine tS 3 (.slice (some ⟨ug,uo,none⟩) un uc) rfl (Or.inl ⟨by rfl,by intro wz hSw;have hc:=hSw.1;go_simp⟩) hH ?_;try go_simp
 refine tU 4 (.int .i64 (j:Int)) rfl hH ?_;try go_simp
 refine tU 5 (.pointer (some ⟨b,0,none⟩)) rfl hH ?_;try go_simp
 refine tU 6 (.pointer (some ⟨b,0,none⟩)) rfl hH ?_;try go_simp
 refine tU 7 (.pointer (some ⟨b,334,none⟩)) rfl hH ?_;try go_simp
 refine tS 8 (.slice (some ⟨ug,uo,none⟩) un uc) rfl (Or.inl ⟨by rfl,by intro wz hSw;have hc:=hSw.1;go_simp⟩) hH ?_;try go_simp
 refine tU 9 (.int .i64 (j:Int)) rfl hH ?_;try go_simp
 refine tS 10 (.agg ((cC c).toList).toArray) rfl (yieldsIf_load_mid (by rfl) 64 _ rfl _ _ rfl ((cC c).toList) _ (fun wz hSw=>hSw.2) underlying64 rfl (vJ c)) hH ?_;try go_simp
 refine tU 11 (.pointer (some ⟨ug,uo+j*28,none⟩)) rfl hH ?_;try go_simp
 refine tU 12 (.pointer (some ⟨ug,uo+j*28+7,none⟩)) rfl hH ?_;try go_simp
 refine zC 13 rfl (fun K hK=>?_)
 go_simp
 refine hK.out _ _ (⟨vz hH.1 hub,zoV hH.2 hup⟩) (fun hN=>?_)
 clear hK K hH
 have hH:=hN
 clear hN
 try go_simp
 refine tU 14 (.pointer (some ⟨ug,uo+j*28,none⟩)) rfl hH ?_;try go_simp
 refine tU 15 (.pointer (some ⟨ug,uo+j*28+17,none⟩)) rfl hH ?_;try go_simp
 rw[<-HW2.out]
 refine zL 16 rfl (fun K hK=>?_)
 rw[if_pos (by rfl)]
 refine wp_store_mid 64 _ _ rfl ug (uo+j*28+17) (cC c) rfl rfl (HTH2.out) (kI c) (vA c) ?_
 refine hK.out _ _ ?_
 clear hK K
 try go_simp
 rw[<-HW3.out]
 refine zJ (by kernel_rfl) ?_ _
 clear hH HTH2 HW2 HW3 S1 T1 B1 C1 k334 c7 f7 hub hup j0 j1 W2
 obtain⟨a,cc,ea,hl0⟩:=S3.out.its.isl
 have k333:W3.cell? ⟨b,333,none⟩=some (.slice a s.slots.length cc):=(zb S3.out.row (by omega)).trans (congrArg some ea)
 have CD:Hid (∀W,Below W3.heap.size W3 W->Calls prog 100 #[.slice a s.slots.length cc,.int .i64 o.seq] W fun e w'=>(∃a c,e=.returned (.tuple #[.slice a (donS s.slots o.seq).length c,.bool true])/\LC w' a (donS s.slots o.seq).length c 2 (scs (donS s.slots o.seq))/\FarC W.heap.size a)/\Below W.heap.size W w'):=fun W hW=>by
  have:=zoX S3.out o.seq j HDN.out hsl W hW
  rw[ea]at this
  exact this
 have cz0:W3.cell? ⟨z,0,none⟩=some (.int .i64 o.seq):=zq B3.out 0 rfl
 clear hl0 ea
 obtain⟨ds,hds⟩:∃ds,ds=donS s.slots o.seq:=⟨_,rfl⟩
 rw[<-hds]at CD HF0
 clear hds HDN
 go_upto_region 3 with fail
 refine zx (S:=fun w'=>w'.cell? ⟨b,333,none⟩=some (.slice a s.slots.length cc)/\w'.cell? ⟨z,0,none⟩=some (.int .i64 o.seq)) [13] (by kernel_rfl) (⟨k333,cz0⟩) (fun hH=>?_)
 refine tU 0 (.pointer (some ⟨b,0,none⟩)) rfl hH ?_;try go_simp
 refine tU 1 (.pointer (some ⟨b,0,none⟩)) rfl hH ?_;try go_simp
 refine tU 2 (.pointer (some ⟨b,0,none⟩)) rfl hH ?_;try go_simp
 refine tU 3 (.pointer (some ⟨b,333,none⟩)) rfl hH ?_;try go_simp
 refine tS 4 (.slice a s.slots.length cc) rfl (Or.inl ⟨by rfl,by intro wz hSw;have hc:=hSw.1;go_simp⟩) hH ?_;try go_simp
 refine tU 5 (.pointer (some ⟨z,0,none⟩)) rfl hH ?_;try go_simp
 refine tS 6 (.int .i64 o.seq) rfl (Or.inl ⟨by rfl,by intro wz hSw;have hc:=hSw.2;go_simp⟩) hH ?_;try go_simp
 refine zC 7 rfl (fun K hK=>?_)
 go_simp
 refine(CD.out _ ((Below.refl _ _).drew)).mono ?_
 rintro e V3 ⟨⟨a3,c3,rfl,hl3,hf3⟩,hk3⟩
 have HK3:Hid (Below W3.heap.size W3 V3):=zi hk3 (Nat.le_refl _)
 have HL3:Hid (LC V3 a3 ds.length c3 2 (scs ds)/\FarC W3.heap.size a3):=⟨hl3,hf3⟩
 clear hl3 hf3
 go_wp2_with fail
 refine hK.out _ _ (⟨zn hk3 (hH.1),zn hk3 (hH.2)⟩) (fun hN=>?_)
 clear hK K hH
 have hH:=hN
 clear hN
 try go_simp
 have S4:Hid (St N V3 b {s with under:=s.under.set j {o with st:=2,c:=c}} L):=S3.out.below HK3.out
 have cA:=hH.1
 have fA:=S4.out.frozen 333
 refine tU 8 (.tuple #[.slice a3 ds.length c3,.bool true]) rfl hH ?_;try go_simp
 refine tU 9 (.slice a3 ds.length c3) rfl hH ?_;try go_simp
 refine tU 10 (.bool true) rfl hH ?_;try go_simp
 refine tU 11 (.pointer (some ⟨b,0,none⟩)) rfl hH ?_;try go_simp
 refine tU 12 (.pointer (some ⟨b,333,none⟩)) rfl hH ?_;try go_simp
 refine zL 13 rfl (fun K hK=>?_)
 go_simp
 refine hK.out _ _ ?_
 clear hK K
 try go_simp
 refine zJ (by kernel_rfl) ?_ _
 obtain⟨s5,t5⟩:=S4.out.setSlots HL3.out.1 (qX S3.out (Nat.le_refl _) HL3.out.2)
 rw[HF0.out]at s5
 have S5:Hid (St N (V3.setCell ⟨b,333,none⟩ (.slice a3 ds.length c3)) b (fin0 s o c) {L with s:=.slice a3 ds.length c3}):=s5
 have T5:Hid (To b w L (V3.setCell ⟨b,333,none⟩ (.slice a3 ds.length c3)) {L with s:=.slice a3 ds.length c3}):=(T3.out.trans (ze L HK3.out)).trans t5
 have B5:Hid (Bx (V3.setCell ⟨b,333,none⟩ (.slice a3 ds.length c3)) z o):=(B3.out.below HK3.out).to t5 hzo.out
 have C5:Hid (Cb (V3.setCell ⟨b,333,none⟩ (.slice a3 ds.length c3)) p c):=(C3.out.below HK3.out).to t5 hpo.out
 have z5:Hid (¬own b {L with s:=.slice a3 ds.length c3} z):=hzo.out
 have p5:Hid (¬own b {L with s:=.slice a3 ds.length c3} p):=hpo.out
 clear hH s5 t5 S4 S3 T3 B3 C3 HL3 HK3 cA fA k333 CD cz0 HF0 hzo hpo
 generalize V3.setCell ⟨b,333,none⟩ (.slice a3 ds.length c3)=V5 at*
 generalize ({L with s:=.slice a3 ds.length c3}:Sls)=L5 at*
 obtain⟨f0,hf0⟩:∃f0,f0=fin0 s o c:=⟨_,rfl⟩
 have HF1:Hid (fin1 s o c=if sts o.i then settle f0 o.seq c else f0):=by rw[hf0];exact ziw s o c
 rw[<-hf0]at S5 HSET
 clear hf0
 have CS:=fun W=>vt o.i W
 go_wp2_with(refine wpList_load_mid rfl 77 _ rfl z 2 rfl (ivL o.i).toList _ (xb B5.out) underlying77 rfl (qL _) ?_)
 refine(CS _).mono ?_
 rintro e V6 ⟨rfl,hk6⟩
 have S6:Hid (St N V6 b f0 L5):=S5.out.below hk6
 have T6:Hid (To b w L V6 L5):=T5.out.trans (ze L5 hk6)
 have B6:Hid (Bx V6 z o):=B5.out.below hk6
 have C6:Hid (Cb V6 p c):=C5.out.below hk6
 clear hk6 S5 T5 B5 C5 CS
 obtain⟨f1,hf1⟩:∃f1,f1=fin1 s o c:=⟨_,rfl⟩
 have HR2:Hid (r=if jQ f1 o c=true/\c.next=o.next then jc f1 o c else{Co.back (jc f1 o c) (o.seq+1) c.next with opn:=decide (c.st=0)}):=by show _=_;rw[HR.out,hf1];rfl
 rw[<-hf1]at HB1 HF1
 clear HR hf1
 cases hst:sts o.i with
 |false=>
  have e:=HF1.out
  rw[hst]at e
  simp only[Bool.false_eq_true,if_false]at e
  subst e
  clear HF1 hst HSET
  have HBr:Hid (V6.heap[z]?=some (.cells D 97 (0,0))):=by rw[HD.out];exact B6.out
  have RC:Hid (V6.heap[p]?=some (.cells (cC c) 64 (0,0))):=C6.out
  have CF:Hid (Calls prog 103 #[.pointer (some ⟨b,0,none⟩),.agg D,cvC c] V6 fun e w'=>e=.returned (.bool (jQ f1 o c))/\St N w' b (jc f1 o c) L5/\To b V6 L5 w' L5):=by rw[HD.out];exact zcL S6.out o c HTO.out
  obtain⟨rt,hrt⟩:∃rt,rt=jQ f1 o c:=⟨_,rfl⟩
  obtain⟨f2,hf2⟩:∃f2,f2=jc f1 o c:=⟨_,rfl⟩
  rw[<-hrt,<-hf2]at CF HR2
  rw[<-hf2]at HB1
  clear hrt hf2 HTO
  go_wp2_with(first|(refine wpList_load_row rfl 97 _ rfl _ rfl 97 _ (0,0) _ HBr.out underlying97 rfl HI.out.1 ?_)|(refine wpList_load_row rfl 64 _ rfl _ rfl 64 _ (0,0) _ RC.out underlying64 rfl (kI c) ?_))
  refine CF.out.mono ?_
  rintro e V8 ⟨rfl,u1,u2⟩
  have S8:Hid (St N V8 b f2 L5):=u1
  have T8:Hid (To b w L V8 L5):=T6.out.trans u2
  have B8:Hid (Bx V8 z o):=B6.out.to u2 z5.out
  have C8:Hid (Cb V8 p c):=C6.out.to u2 p5.out
  clear u1 u2 S6 T6 B6 C6 CF HBr RC HI HD
  have cn:V8.cell? ⟨p,1,none⟩=some (.int .u32 c.next):=qT C8.out 1 rfl
  have co:V8.cell? ⟨z,13,none⟩=some (.int .u32 o.next):=zq B8.out 13 rfl
  have c0:V8.cell? ⟨z,0,none⟩=some (.int .i64 o.seq):=zq B8.out 0 rfl
  obtain⟨nx,hnx⟩:∃nx,nx=c.next:=⟨_,rfl⟩
  obtain⟨ny,hny⟩:∃ny,ny=o.next:=⟨_,rfl⟩
  rw[<-hnx]at cn HR2
  rw[<-hny]at co HR2
  obtain⟨cs,hcs⟩:∃cs,cs=c.st:=⟨_,rfl⟩
  rw[<-hcs]at HR2
  have HCS:Hid (cs=c.st):=hcs
  clear hnx hny hcs
  by_cases hok:rt=true/\nx=ny
  ·obtain⟨rfl,rfl⟩:=hok
   have hr:=HR2.out
   rw[if_pos ⟨rfl,rfl⟩]at hr
   subst hr
   clear HR2
   go_wp2_with fail
   refine bodyPost_end (results_none rfl _ _ _) rfl ⟨rfl,L5,S8.out,T8.out⟩
  ·have hr:=HR2.out
   rw[if_neg hok]at hr
   have HR3:Hid (r={Co.back f2 (o.seq+1) nx with opn:=decide (cs=0)}):=hr
   have CB:Hid (Calls prog 104 #[.pointer (some ⟨b,0,none⟩),.int .i64 (o.seq+1),.int .u32 nx] V8 fun e w'=>e=.returned (.tuple #[])/\∃L',St N w' b (Co.back f2 (o.seq+1) nx) L'/\To b V8 L5 w' L'):=vI S8.out HB1.out (o.seq+1) nx
   clear hr HR2
   cases rt with
   |true=>
    have hne:¬nx=ny:=fun e=>hok ⟨rfl,e⟩
    have hne':(nx != ny)=true:=by simpa using hne
    clear hok
    go_wp2_with fail
    refine CB.out.mono ?_
    rintro e V9 ⟨rfl,L9,u1,u2⟩
    have S9:Hid (St N V9 b (Co.back f2 (o.seq+1) nx) L9):=u1
    have T9:Hid (To b w L V9 L9):=T8.out.trans u2
    have C9:Hid (Cb V9 p c):=C8.out.to u2 p5.out
    clear u1 u2 S8 T8 C8 B8 CB cn co c0
    have c2:V9.cell? ⟨p,2,none⟩=some (.int .i64 cs):=qT C9.out 2 (by rw[HCS.out];rfl)
    have k338:V9.cell? ⟨b,338,none⟩=some (.bool (Co.back f2 (o.seq+1) nx).opn):=(zb S9.out.row (by omega)).trans rfl
    have f338:=S9.out.frozen 338
    obtain⟨s10,t10⟩:=S9.out.setOpn (decide (cs=0))
    rw[<-HR3.out]at s10
    have S10:Hid (St N (V9.setCell ⟨b,338,none⟩ (.bool (decide (cs=0)))) b r L9):=s10
    have T10:Hid (To b w L (V9.setCell ⟨b,338,none⟩ (.bool (decide (cs=0)))) L9):=T9.out.trans t10
    clear s10 t10
    by_cases hcs:cs=0
    ·subst hcs
     go_wp2_with fail
     refine bodyPost_end (results_none rfl _ _ _) rfl ⟨rfl,L9,S10.out,T10.out⟩
    ·have hcs':(cs==0)=false:=by simpa using hcs
     rw[decide_eq_false hcs]at S10 T10
     go_wp2_with fail
     refine bodyPost_end (results_none rfl _ _ _) rfl ⟨rfl,L9,S10.out,T10.out⟩
   |false=>
    clear hok
    go_wp2_with fail
    refine CB.out.mono ?_
    rintro e V9 ⟨rfl,L9,u1,u2⟩
    have S9:Hid (St N V9 b (Co.back f2 (o.seq+1) nx) L9):=u1
    have T9:Hid (To b w L V9 L9):=T8.out.trans u2
    have C9:Hid (Cb V9 p c):=C8.out.to u2 p5.out
    clear u1 u2 S8 T8 C8 B8 CB cn co c0
    have c2:V9.cell? ⟨p,2,none⟩=some (.int .i64 cs):=qT C9.out 2 (by rw[HCS.out];rfl)
    have k338:V9.cell? ⟨b,338,none⟩=some (.bool (Co.back f2 (o.seq+1) nx).opn):=(zb S9.out.row (by omega)).trans rfl
    have f338:=S9.out.frozen 338
    obtain⟨s10,t10⟩:=S9.out.setOpn (decide (cs=0))
    rw[<-HR3.out]at s10
    have S10:Hid (St N (V9.setCell ⟨b,338,none⟩ (.bool (decide (cs=0)))) b r L9):=s10
    have T10:Hid (To b w L (V9.setCell ⟨b,338,none⟩ (.bool (decide (cs=0)))) L9):=T9.out.trans t10
    clear s10 t10
    by_cases hcs:cs=0
    ·subst hcs
     go_wp2_with fail
     refine bodyPost_end (results_none rfl _ _ _) rfl ⟨rfl,L9,S10.out,T10.out⟩
    ·have hcs':(cs==0)=false:=by simpa using hcs
     rw[decide_eq_false hcs]at S10 T10
     go_wp2_with fail
     refine bodyPost_end (results_none rfl _ _ _) rfl ⟨rfl,L9,S10.out,T10.out⟩
 |true=>
  have e:=HF1.out
  rw[hst]at e
  simp only[if_true]at e
  have CSt:Hid (Calls prog 102 #[.pointer (some ⟨b,0,none⟩),.int .i64 o.seq,cvC c] V6 fun e w'=>e=.returned (.tuple #[])/\∃L',St N w' b f1 L'/\To b V6 L5 w' L'):=by rw[e];exact zdO S6.out o.seq c (HSET.out hst)
  have cz0:V6.cell? ⟨z,0,none⟩=some (.int .i64 o.seq):=zq B6.out 0 rfl
  have RC:Hid (V6.heap[p]?=some (.cells (cC c) 64 (0,0))):=C6.out
  clear e HF1 hst HSET
  go_wp2_with(refine wpList_load_row rfl 64 _ rfl _ rfl 64 _ (0,0) _ RC.out underlying64 rfl (kI c) ?_)
  refine CSt.out.mono ?_
  rintro e V7 ⟨rfl,L7,u1,u2⟩
  have S7:Hid (St N V7 b f1 L7):=u1
  have T7:Hid (To b w L V7 L7):=T6.out.trans u2
  have B7:Hid (Bx V7 z o):=B6.out.to u2 z5.out
  have C7:Hid (Cb V7 p c):=C6.out.to u2 p5.out
  have z7:Hid (¬own b L7 z):=B6.out.not u2 z5.out
  have p7:Hid (¬own b L7 p):=C6.out.not u2 p5.out
  clear u1 u2 S6 T6 B6 C6 z5 p5 CSt cz0 RC
  have HBr:Hid (V7.heap[z]?=some (.cells D 97 (0,0))):=by rw[HD.out];exact B7.out
  have RC:Hid (V7.heap[p]?=some (.cells (cC c) 64 (0,0))):=C7.out
  have CF:Hid (Calls prog 103 #[.pointer (some ⟨b,0,none⟩),.agg D,cvC c] V7 fun e w'=>e=.returned (.bool (jQ f1 o c))/\St N w' b (jc f1 o c) L7/\To b V7 L7 w' L7):=by rw[HD.out];exact zcL S7.out o c HTO.out
  obtain⟨rt,hrt⟩:∃rt,rt=jQ f1 o c:=⟨_,rfl⟩
  obtain⟨f2,hf2⟩:∃f2,f2=jc f1 o c:=⟨_,rfl⟩
  rw[<-hrt,<-hf2]at CF HR2
  rw[<-hf2]at HB1
  clear hrt hf2 HTO
  go_wp2_with(first|(refine wpList_load_row rfl 97 _ rfl _ rfl 97 _ (0,0) _ HBr.out underlying97 rfl HI.out.1 ?_)|(refine wpList_load_row rfl 64 _ rfl _ rfl 64 _ (0,0) _ RC.out underlying64 rfl (kI c) ?_))
  refine CF.out.mono ?_
  rintro e V8 ⟨rfl,u1,u2⟩
  have S8:Hid (St N V8 b f2 L7):=u1
  have T8:Hid (To b w L V8 L7):=T7.out.trans u2
  have B8:Hid (Bx V8 z o):=B7.out.to u2 z7.out
  have C8:Hid (Cb V8 p c):=C7.out.to u2 p7.out
  clear u1 u2 S7 T7 B7 C7 CF HBr RC HI HD
  have cn:V8.cell? ⟨p,1,none⟩=some (.int .u32 c.next):=qT C8.out 1 rfl
  have co:V8.cell? ⟨z,13,none⟩=some (.int .u32 o.next):=zq B8.out 13 rfl
  have c0:V8.cell? ⟨z,0,none⟩=some (.int .i64 o.seq):=zq B8.out 0 rfl
  obtain⟨nx,hnx⟩:∃nx,nx=c.next:=⟨_,rfl⟩
  obtain⟨ny,hny⟩:∃ny,ny=o.next:=⟨_,rfl⟩
  rw[<-hnx]at cn HR2
  rw[<-hny]at co HR2
  obtain⟨cs,hcs⟩:∃cs,cs=c.st:=⟨_,rfl⟩
  rw[<-hcs]at HR2
  have HCS:Hid (cs=c.st):=hcs
  clear hnx hny hcs
  by_cases hok:rt=true/\nx=ny
  ·obtain⟨rfl,rfl⟩:=hok
   have hr:=HR2.out
   rw[if_pos ⟨rfl,rfl⟩]at hr
   subst hr
   clear HR2
   go_wp2_with fail
   refine bodyPost_end (results_none rfl _ _ _) rfl ⟨rfl,L7,S8.out,T8.out⟩
  ·have hr:=HR2.out
   rw[if_neg hok]at hr
   have HR3:Hid (r={Co.back f2 (o.seq+1) nx with opn:=decide (cs=0)}):=hr
   have CB:Hid (Calls prog 104 #[.pointer (some ⟨b,0,none⟩),.int .i64 (o.seq+1),.int .u32 nx] V8 fun e w'=>e=.returned (.tuple #[])/\∃L',St N w' b (Co.back f2 (o.seq+1) nx) L'/\To b V8 L7 w' L'):=vI S8.out HB1.out (o.seq+1) nx
   clear hr HR2
   cases rt with
   |true=>
    have hne:¬nx=ny:=fun e=>hok ⟨rfl,e⟩
    have hne':(nx != ny)=true:=by simpa using hne
    clear hok
    go_wp2_with fail
    refine CB.out.mono ?_
    rintro e V9 ⟨rfl,L9,u1,u2⟩
    have S9:Hid (St N V9 b (Co.back f2 (o.seq+1) nx) L9):=u1
    have T9:Hid (To b w L V9 L9):=T8.out.trans u2
    have C9:Hid (Cb V9 p c):=C8.out.to u2 p7.out
    clear u1 u2 S8 T8 C8 B8 CB cn co c0
    have c2:V9.cell? ⟨p,2,none⟩=some (.int .i64 cs):=qT C9.out 2 (by rw[HCS.out];rfl)
    have k338:V9.cell? ⟨b,338,none⟩=some (.bool (Co.back f2 (o.seq+1) nx).opn):=(zb S9.out.row (by omega)).trans rfl
    have f338:=S9.out.frozen 338
    obtain⟨s10,t10⟩:=S9.out.setOpn (decide (cs=0))
    rw[<-HR3.out]at s10
    have S10:Hid (St N (V9.setCell ⟨b,338,none⟩ (.bool (decide (cs=0)))) b r L9):=s10
    have T10:Hid (To b w L (V9.setCell ⟨b,338,none⟩ (.bool (decide (cs=0)))) L9):=T9.out.trans t10
    clear s10 t10
    by_cases hcs:cs=0
    ·subst hcs
     go_wp2_with fail
     refine bodyPost_end (results_none rfl _ _ _) rfl ⟨rfl,L9,S10.out,T10.out⟩
    ·have hcs':(cs==0)=false:=by simpa using hcs
     rw[decide_eq_false hcs]at S10 T10
     go_wp2_with fail
     refine bodyPost_end (results_none rfl _ _ _) rfl ⟨rfl,L9,S10.out,T10.out⟩
   |false=>
    clear hok
    go_wp2_with fail
    refine CB.out.mono ?_
    rintro e V9 ⟨rfl,L9,u1,u2⟩
    have S9:Hid (St N V9 b (Co.back f2 (o.seq+1) nx) L9):=u1
    have T9:Hid (To b w L V9 L9):=T8.out.trans u2
    have C9:Hid (Cb V9 p c):=C8.out.to u2 p7.out
    clear u1 u2 S8 T8 C8 B8 CB cn co c0
    have c2:V9.cell? ⟨p,2,none⟩=some (.int .i64 cs):=qT C9.out 2 (by rw[HCS.out];rfl)
    have k338:V9.cell? ⟨b,338,none⟩=some (.bool (Co.back f2 (o.seq+1) nx).opn):=(zb S9.out.row (by omega)).trans rfl
    have f338:=S9.out.frozen 338
    obtain⟨s10,t10⟩:=S9.out.setOpn (decide (cs=0))
    rw[<-HR3.out]at s10
    have S10:Hid (St N (V9.setCell ⟨b,338,none⟩ (.bool (decide (cs=0)))) b r L9):=s10
    have T10:Hid (To b w L (V9.setCell ⟨b,338,none⟩ (.bool (decide (cs=0)))) L9):=T9.out.trans t10
    clear s10 t10
    by_cases hcs:cs=0
    ·subst hcs
     go_wp2_with fail
     refine bodyPost_end (results_none rfl _ _ _) rfl ⟨rfl,L9,S10.out,T10.out⟩
    ·have hcs':(cs==0)=false:=by simpa using hcs
     rw[decide_eq_false hcs]at S10 T10
     go_wp2_with fail
     refine bodyPost_end (results_none rfl _ _ _) rfl ⟨rfl,L9,S10.out,T10.out⟩
end Go.Proofs.YtpiohehijkpghabGreatDoor.Co
