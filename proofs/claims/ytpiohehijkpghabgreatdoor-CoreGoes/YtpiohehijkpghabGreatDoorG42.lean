/- What finishing asks of a core. -/
import Derived.Test.YtpiohehijkpghabGreatDoorG41
import Derived.Test.YtpiohehijkpghabGreatDoorG40
import Derived.Test.YtpiohehijkpghabGreatDoorG01
set_option maxRecDepth 20000
set_option maxHeartbeats 6000000
namespace Go.Proofs.YtpiohehijkpghabGreatDoor.Co
open Go.RowKit
open Hy
open Wi Od Re.Hy
open Gu.Hy (Tb tcs)
set_option linter.unusedVariables false
set_option linter.unusedSimpArgs false
structure SetOk (s:Cr) (m:Nat→Int) (q:Int) (c:Cm):Prop where
 back:BackOk s m
 uq:Uq s.asked
 ask:∀a∈s.asked,a.Ok
 has:∃a∈s.asked,(a.st&&decide (a.seq=q))=true
 of:∀a∈s.asked,∃o∈s.under,a.seq=o.seq
 c:CmR c
theorem BackOk.asks {s:Cr} {m:Nat→Int} (h:BackOk s m) {k:List Ac} (hk:k.length≤10000000):BackOk {s with asked:=k} m:=
 ⟨⟨h.bk.olds,h.bk.reg,h.bk.rise,h.bk.slo⟩,h.dis,h.rd,h.low,h.high,h.lenU,hk,h.bck0,h.bck1⟩
theorem settle_none {s:Cr} {q:Int} {c:Cm} {k:List Ac} (hk:setA s.asked q (stA q c)=k) (h:lst k (stA q c) k.length=none):settle s q c={s with asked:=k}:=by
 unfold settle
 simp only[hk,h]
theorem settle_some {s:Cr} {q:Int} {c:Cm} {k:List Ac} {e:Int} (hk:setA s.asked q (stA q c)=k) (h:lst k (stA q c) k.length=some e):settle s q c=Co.back {s with asked:=k} e (pcOf s.under e):=by
 unfold settle
 simp only[hk,h]
theorem SetOk.early {s:Cr} {m:Nat→Int} {q:Int} {c:Cm} (h:SetOk s m q c) {e:Int} (he:lst (setA s.asked q (stA q c)) (stA q c) (setA s.asked q (stA q c)).length=some e):∃l1 o l2,s.under=l1++o::l2∧o.seq=e∧pcOf s.under e=o.pc:=by
 obtain⟨⟨a,ha,hae,_⟩,_⟩:=lst_some he
 have ho:∃o∈s.under,a.seq=o.seq:=by
  obtain⟨p,hp,rfl⟩:=List.mem_map.1 ha
  split
  ·rename_i hc
   obtain⟨o,ho,e⟩:=h.of p hp
   exact⟨o,ho,by show q=o.seq;rw[←e,hc.2]⟩
  ·exact h.of p hp
 obtain⟨o,ho,e2⟩:=ho
 obtain⟨l1,l2,hl⟩:=List.append_of_mem ho
 have hs:o.seq=e:=by rw[←e2,hae]
 refine⟨l1,o,l2,hl,hs,?_⟩
 have hr:=h.back.bk.rise
 rw[hl]at hr
 rw[hl,←hs]
 exact pcOf_at hr
theorem csettle_any {N:Nat} {w:World} {b:Nat} {s:Cr} {L:Sls} (S:St N w b s L) {m:Nat→Int} (q:Int) (c:Cm) (K:SetOk s m q c):
  Calls Tryz.prog 102 #[.pointer (some ⟨b,0,none⟩),.int .i64 q,cvC c] w fun e w'=>e=.returned (.tuple #[])∧∃L',St N w' b (settle s q c) L'∧To b w L w' L':=by
 have hmf:∀(fn:Fn) (first cap:Array Value) (w:World),(Instr.makeFunc fn first cap).run Tryz.prog w=.ok (.func fn first cap) w:=fun _ _ _ _=>rfl
 obtain⟨r,hr⟩:∃r,r=settle s q c:=⟨_,rfl⟩
 rw[←hr]
 have HR:Hid (r=settle s q c):=hr
 have HK:Hid (SetOk s m q c):=K
 obtain⟨mi,hmi,hml⟩:=firstA_at K.has
 have HM:Hid (FirstA (fun a=>a.st&&decide (a.seq=q)) s.asked mi):=hmi
 obtain⟨k,hk⟩:∃k,k=s.asked.set mi (stA q c):=⟨_,rfl⟩
 have HSA:Hid (setA s.asked q (stA q c)=k):=by show _=_;rw[hk];exact set_first K.uq hmi hml _
 obtain⟨hf1,hf2⟩:=sto1_first hmi hml (e:=stA q c) rfl rfl rfl
 rw[←hk]at hf1 hf2
 have HF:Hid (FirstA (sto1 q) k mi∧k[mi]?=some (stA q c)):=⟨hf1,hf2⟩
 have hkl:k.length=s.asked.length:=by rw[hk,List.length_set]
 have HKL:Hid (k.length=s.asked.length):=hkl
 have HKK:Hid (k=s.asked.set mi (stA q c)):=hk
 have hlA:=K.back.lenA
 clear hr hk hf1 hf2 hkl K hmi
 go_enter Tryz.func102,Tryz.ntmps102
 go_upto_region 1 with fail
 refine Wi.two_boxes (Φ:=fun W=>Code.wp _ _ _ _ W) ?_
 intro V h1 h2 hb hs
 have cz:V.cell? ⟨w.heap.size,0,none⟩=some (.int .i64 q):=by rw[cell_of_row _ _ _ _ _ _ h1];rfl
 have CV:Hid (Cb V (w.heap.size+1) c):=h2
 have SV:Hid (St N V b s L):=S.below hb
 have TV:Hid (To b w L V L):=to_below L hb
 have hzb:Hid (¬own b L w.heap.size):=fun h=>by have:=own_lt S h;omega
 have hpb:Hid (¬own b L (w.heap.size+1)):=fun h=>by have:=own_lt S h;omega
 clear h1 h2 hb hs S
 generalize w.heap.size+1=p at*
 generalize w.heap.size=z at*
 obtain⟨x0,hx0⟩:∃x0,s.asked[mi]?=some x0:=⟨_,List.getElem?_eq_getElem hml⟩
 obtain⟨ag,ao,ac,eav,hac,_,hag,hacs,_⟩:=SV.out.its.ia.at (by omega)
 obtain⟨n,hn⟩:∃n,n=s.asked.length:=⟨_,rfl⟩
 have HN:Hid (n=s.asked.length):=hn
 rw[←hn]at eav hac hml hlA HKL
 have HAV:Hid (L.a=.slice (some ⟨ag,ao,none⟩) n ac):=eav
 have k335:V.cell? ⟨b,335,none⟩=some (.slice (some ⟨ag,ao,none⟩) n ac):=(cell_at SV.out.row (by omega)).trans (congrArg some eav)
 have HU:Hid (LC V (some ⟨ag,ao,none⟩) n ac 7 (acs s.asked)):=by
  have:=SV.out.its.ia
  rw[eav,←hn]at this
  rw[acs_flat]
  exact this.lc
 have CI:Hid (∀W,Below V.heap.size V W→Calls Tryz.prog 66 #[.slice (some ⟨ag,ao,none⟩) n ac,.func (.func 133) #[] #[.pointer (some ⟨z,0,none⟩)]] W fun e w'=>e=.returned (.int .i64 (mi:Int))∧Below W.heap.size W w'):=fun W hW=>
  aIndexFunc_any 133 z (fun a=>a.st&&decide (a.seq=q)) eg_settleq (some ⟨ag,ao,none⟩) n ac (by omega) s.asked mi HM (mi:Int) (by show _=_;rw[if_pos hml]) W (HU.out.below (Nat.le_refl _) hW) (fun W' o hW'=>csettleq_any z q W' o (keepC hW' (keepC hW cz)))
 clear hacs hag hn eav
 go_wp2_with fail
 refine(CI.out _ (Below.refl _ _)).mono ?_
 rintro e V1 ⟨rfl,hk1⟩
 have S1:Hid (St N V1 b s L):=SV.out.below hk1
 have T1:Hid (To b w L V1 L):=TV.out.trans (to_below L hk1)
 have C1:Hid (Cb V1 p c):=CV.out.below hk1
 have cz1:V1.cell? ⟨z,0,none⟩=some (.int .i64 q):=keepC hk1 cz
 have k335b:V1.cell? ⟨b,335,none⟩=some (.slice (some ⟨ag,ao,none⟩) n ac):=keepC hk1 k335
 clear hk1 CI SV TV CV cz k335 HU
 obtain⟨g',o',cap',ev',hth,s2,t2⟩:=S1.out.dr.putA (y:=stA q c) hx0 (cel_one _)
 obtain⟨rfl,rfl⟩:ag=g'∧ao=o':=by rw[HAV.out]at ev';injection ev' with h1 _ _;injection h1 with h1;injection h1 with h1 h2;exact⟨h1,h2⟩
 rw[←HKK.out]at s2
 have HTH:Hid (V1.drew.there ag (ao+mi*7) 7):=hth
 have S2:Hid (St N (V1.drew.setCells ag (ao+mi*7) (cel (stA q c))) b {s with asked:=k} L):=s2
 have t2':Hid (To b V1.drew L (V1.drew.setCells ag (ao+mi*7) (cel (stA q c))) L):=t2
 have m0:0≤(mi:Int):=by omega
 have m1:(mi:Int)<(n:Int):=by omega
 have c6:V1.cell? ⟨p,6,none⟩=some (.int .u32 c.pl):=cb_row C1.out 6 rfl
 have c7:V1.cell? ⟨p,7,none⟩=some (.int .i64 c.many):=cb_row C1.out 7 rfl
 have c8:V1.cell? ⟨p,8,none⟩=some (.int .u32 c.data):=cb_row C1.out 8 rfl
 clear hth s2 t2 ev' hx0
 go_upto_region 2 with fail
 refine startZ (S:=fun w'=>w'.cell? ⟨b,335,none⟩=some (.slice (some ⟨ag,ao,none⟩) n ac)∧w'.cell? ⟨z,0,none⟩=some (.int .i64 q)∧w'.cell? ⟨p,6,none⟩=some (.int .u32 c.pl)∧w'.cell? ⟨p,7,none⟩=some (.int .i64 c.many)∧w'.cell? ⟨p,8,none⟩=some (.int .u32 c.data)) [14] (by kernel_rfl) (⟨k335b,cz1,c6,c7,c8⟩) (fun hH=>?_)
 refine tU 0 (.pointer (some ⟨b,0,none⟩)) rfl hH ?_;try go_simp
 refine tU 1 (.pointer (some ⟨b,0,none⟩)) rfl hH ?_;try go_simp
 refine tU 2 (.pointer (some ⟨b,335,none⟩)) rfl hH ?_;try go_simp
 refine tS 3 (.slice (some ⟨ag,ao,none⟩) n ac) rfl (Or.inl ⟨by rfl,by intro wz hSw;have hc:=hSw.1;go_simp⟩) hH ?_;try go_simp
 refine tU 4 (.int .i64 (mi:Int)) rfl hH ?_;try go_simp
 refine tS 5 (.int .i64 q) rfl (Or.inl ⟨by rfl,by intro wz hSw;have hc:=hSw.2.1;go_simp⟩) hH ?_;try go_simp
 refine tU 6 (.pointer (some ⟨p,6,none⟩)) rfl hH ?_;try go_simp
 refine tS 7 (.int .u32 c.pl) rfl (Or.inl ⟨by rfl,by intro wz hSw;have hc:=hSw.2.2.1;go_simp⟩) hH ?_;try go_simp
 refine tU 8 (.pointer (some ⟨p,7,none⟩)) rfl hH ?_;try go_simp
 refine tS 9 (.int .i64 c.many) rfl (Or.inl ⟨by rfl,by intro wz hSw;have hc:=hSw.2.2.2.1;go_simp⟩) hH ?_;try go_simp
 refine tU 10 (.pointer (some ⟨p,8,none⟩)) rfl hH ?_;try go_simp
 refine tS 11 (.int .u32 c.data) rfl (Or.inl ⟨by rfl,by intro wz hSw;have hc:=hSw.2.2.2.2;go_simp⟩) hH ?_;try go_simp
 refine tU 12 (.agg #[.int .i64 q,.bool true,.bool true,.int .u32 c.pl,.int .i64 c.many,.int .u32 c.data,.bool false]) rfl hH ?_;try go_simp
 refine tU 13 (.pointer (some ⟨ag,ao+mi*7,none⟩)) rfl hH ?_;try go_simp
 refine zL 14 rfl (fun K hK=>?_)
 rw[if_pos (by rfl)]
 refine wp_store_mid 100 _ _ rfl ag (ao+mi*7) ((cel (stA q c)).toArray) rfl rfl (HTH.out) (cel_info _) (cel_ones _) ?_
 refine hK.out _ _ ?_
 clear hK K
 try go_simp
 refine doneZ (by kernel_rfl) ?_ _
 have T2:Hid (To b w L (V1.drew.setCells ag (ao+mi*7) (cel (stA q c))) L):=T1.out.dr.trans t2'.out
 have cz2:(V1.drew.setCells ag (ao+mi*7) (cel (stA q c))).cell? ⟨z,0,none⟩=some (.int .i64 q):=cell_to (w:=V1.drew) cz1 t2'.out hzb.out
 have C2:Hid (Cb (V1.drew.setCells ag (ao+mi*7) (cel (stA q c))) p c):=Cb.to (w:=V1.drew) C1.out t2'.out hpb.out
 clear hH HTH t2' S1 T1 C1 cz1 k335b c6 c7 c8 m0 m1
 generalize V1.drew.setCells ag (ao+mi*7) (cel (stA q c))=V2 at*
 have k335:V2.cell? ⟨b,335,none⟩=some (.slice (some ⟨ag,ao,none⟩) n ac):=(cell_at S2.out.row (by omega)).trans (congrArg some HAV.out)
 obtain⟨y0,f0,hT⟩:∃y0 f0,Od.Told (lst k (stA q c) n) y0 f0:=⟨_,_,rfl,rfl⟩
 have CW:Hid (∀W,Below V2.heap.size V2 W→Calls Tryz.prog 134 #[.slice (some ⟨ag,ao,none⟩) n ac,.int .i64 q] W fun e w'=>e=.returned (.tuple #[.int .i64 y0,.bool f0])∧Below W.heap.size W w'):=fun W hW=>by
  refine uWrong_yes (some ⟨ag,ao,none⟩) n ac q k (fun a ha=>?_) mi HF.out.1 hml (stA q c) HF.out.2 y0 f0 hT (by omega) W ?_
  ·rw[←HSA.out]at ha
   obtain⟨p',hp',rfl⟩:=List.mem_map.1 ha
   split
   ·exact ok_stA HK.out.c
   ·exact HK.out.ask p' hp'
  ·have:=S2.out.its.ia
   rw[HAV.out]at this
   have h2:(({s with asked:=k}:Cr).asked).length=n:=HKL.out
   rw[h2]at this
   rw[acs_flat]
   exact(this.below hW).lc
 have HT:Hid (Od.Told (lst k (stA q c) n) y0 f0):=hT
 clear hT
 go_upto_region 3 with fail
 refine startZ (S:=fun w'=>w'.cell? ⟨b,335,none⟩=some (.slice (some ⟨ag,ao,none⟩) n ac)∧w'.cell? ⟨z,0,none⟩=some (.int .i64 q)) [] (by kernel_rfl) (⟨k335,cz2⟩) (fun hH=>?_)
 refine tU 0 (.pointer (some ⟨b,0,none⟩)) rfl hH ?_;try go_simp
 refine tU 1 (.pointer (some ⟨b,0,none⟩)) rfl hH ?_;try go_simp
 refine tU 2 (.pointer (some ⟨b,335,none⟩)) rfl hH ?_;try go_simp
 refine tS 3 (.slice (some ⟨ag,ao,none⟩) n ac) rfl (Or.inl ⟨by rfl,by intro wz hSw;have hc:=hSw.1;go_simp⟩) hH ?_;try go_simp
 refine tS 4 (.int .i64 q) rfl (Or.inl ⟨by rfl,by intro wz hSw;have hc:=hSw.2;go_simp⟩) hH ?_;try go_simp
 refine zC 5 rfl (fun K hK=>?_)
 go_simp
 refine(CW.out _ ((Below.refl _ _).drew)).mono ?_
 rintro e V3 ⟨rfl,hk3⟩
 have HK3:Hid (Below V2.heap.size V2 V3):=below_first hk3 (Nat.le_refl _)
 go_wp2_with fail
 refine hK.out _ _ (⟨keepC hk3 (hH.1),keepC hk3 (hH.2)⟩) (fun hN=>?_)
 clear hK K hH
 have hH:=hN
 clear hN
 try go_simp
 refine tU 6 (.tuple #[.int .i64 y0,.bool f0]) rfl hH ?_;try go_simp
 refine tU 7 (.int .i64 y0) rfl hH ?_;try go_simp
 refine tU 8 (.bool f0) rfl hH ?_;try go_simp
 refine tU 9 (.int .i64 y0) rfl hH ?_;try go_simp
 refine tU 10 (.bool f0) rfl hH ?_;try go_simp
 refine doneZ (by kernel_rfl) ?_ _
 have S3:Hid (St N V3 b {s with asked:=k} L):=S2.out.below HK3.out
 have T3:Hid (To b w L V3 L):=T2.out.trans (to_below L HK3.out)
 clear hH CW S2 T2 C2 cz2 k335 HK3
 cases hls:lst k (stA q c) n with
 |none=>
  rw[hls]at HT
  obtain⟨rfl,rfl⟩:=HT.out.none'
  have hr:r={s with asked:=k}:=by rw[HR.out];exact settle_none HSA.out (by rw[HKL.out];exact hls)
  subst hr
  clear hls HT HR
  go_wp2_with fail
  refine bodyPost_end (results_none rfl _ _ _) rfl ⟨rfl,L,S3.out,T3.out⟩
 |some e=>
  rw[hls]at HT
  obtain⟨hy,rfl⟩:=HT.out.some'
  have hls2:lst (setA s.asked q (stA q c)) (stA q c) (setA s.asked q (stA q c)).length=some e:=by rw[HSA.out,HKL.out];exact hls
  obtain⟨l1,o,l2,hu,hos,hpc⟩:=HK.out.early hls2
  have hr:r=Co.back {s with asked:=k} y0 o.pc:=by rw[HR.out,settle_some HSA.out (by rw[HKL.out];exact hls),hpc,hy]
  have HR2:Hid (r=Co.back {s with asked:=k} y0 o.pc):=hr
  have HOS:Hid (o.seq=y0):=hos.trans hy.symm
  have HU:Hid (s.under=l1++o::l2):=hu
  obtain⟨j,hj⟩:∃j,j=l1.length:=⟨_,rfl⟩
  have hjl:j<s.under.length:=by rw[hu,hj];simp
  have CF:Hid (∀W,Below V3.heap.size V3 W→Calls Tryz.prog 45 #[.pointer (some ⟨b,0,none⟩),.int .i64 y0] W fun e w'=>e=.returned (.int .i64 (j:Int))∧Below W.heap.size W w'):=fun W hW=>by
   have:=cfind_any (S3.out.below hW) y0 j (by show FirstD _ s.under j;rw[←HOS.out,hj];exact find_first hu HK.out.back.bk.rise) (by show s.under.length≤_;have:=HK.out.back.lenU;omega)
   rw[if_pos (show j<({s with asked:=k}:Cr).under.length from hjl)]at this
   exact this
  have CB:Hid (∀W,Below V3.heap.size V3 W→Calls Tryz.prog 104 #[.pointer (some ⟨b,0,none⟩),.int .i64 y0,.int .u32 o.pc] W fun e w'=>e=.returned (.tuple #[])∧∃L',St N w' b r L'∧To b W L w' L'):=fun W hW=>by
   rw[hr]
   exact cback_any (S3.out.below hW) (HK.out.back.asks (by rw[HKL.out];omega)) y0 o.pc
  obtain⟨ug,uo,uc,euv,huc,_,hug,hucs,_⟩:=S3.out.its.iu.at (show 0<s.under.length by omega)
  obtain⟨un,hun⟩:∃un,un=s.under.length:=⟨_,rfl⟩
  have k334:V3.cell? ⟨b,334,none⟩=some (.slice (some ⟨ug,uo,none⟩) un uc):=(cell_at S3.out.row (by omega)).trans (congrArg some (by rw[hun];exact euv))
  have cpc:V3.cell? ⟨ug,uo+j*28+1,none⟩=some (.int .u32 o.pc):=by
   rw[Nat.add_assoc]
   exact hucs _ _ (flat_at dgl_len (l:=s.under) (k:=j) (x:=o) (by rw[hu,hj];simp) rfl)
  have j0:0≤(j:Int):=by omega
  have j1:(j:Int)<(un:Int):=by omega
  clear hls HT HR hls2 hu hos hpc hr hj hjl euv hucs hug hun hy huc
  go_upto_region 5 with fail
  refine startZ (S:=fun w'=>w'.cell? ⟨b,334,none⟩=some (.slice (some ⟨ug,uo,none⟩) un uc)∧w'.cell? ⟨ug,uo+j*28+1,none⟩=some (.int .u32 o.pc)) [12] (by kernel_rfl) (⟨k334,cpc⟩) (fun hH=>?_)
  refine tU 0 (.pointer (some ⟨b,0,none⟩)) rfl hH ?_;try go_simp
  refine tU 1 (.int .i64 y0) rfl hH ?_;try go_simp
  refine tU 2 (.pointer (some ⟨b,0,none⟩)) rfl hH ?_;try go_simp
  refine tU 3 (.pointer (some ⟨b,0,none⟩)) rfl hH ?_;try go_simp
  refine tU 4 (.pointer (some ⟨b,334,none⟩)) rfl hH ?_;try go_simp
  refine tU 6 (.pointer (some ⟨b,0,none⟩)) rfl hH ?_;try go_simp
  refine tU 7 (.int .i64 y0) rfl hH ?_;try go_simp
  refine rZ [5,8] ?_
  refine(AllReadyZ.cons rfl (fun K hK=>?_) (AllReadyZ.cons rfl (fun K hK=>?_) AllReadyZ.nil))
  ·have hc:=hH.1
   go_simp
   clear hc
   refine hK.out _ _ (hH) (fun hN=>?_)
   clear hK K hH
   have hH:=hN
   clear hN
   try go_simp
   refine zC 8 rfl (fun K hK=>?_)
   go_simp
   refine(CF.out _ ((Below.refl _ _).drew)).mono ?_
   rintro e V4 ⟨rfl,hk4⟩
   have HK4:Hid (Below V3.heap.size V3 V4):=below_first hk4 (Nat.le_refl _)
   go_wp2_with fail
   refine hK.out _ _ (⟨keepC hk4 (hH.1),keepC hk4 (hH.2)⟩) (fun hN=>?_)
   clear hK K hH
   have hH:=hN
   clear hN
   try go_simp
   refine tU 9 (.pointer (some ⟨ug,uo+j*28,none⟩)) rfl hH ?_;try go_simp
   refine tU 10 (.pointer (some ⟨ug,uo+j*28+1,none⟩)) rfl hH ?_;try go_simp
   refine tS 11 (.int .u32 o.pc) rfl (Or.inl ⟨by rfl,by intro wz hSw;have hc:=hSw.2;go_simp⟩) hH ?_;try go_simp
   refine zL 12 rfl (fun K hK=>?_)
   go_simp
   refine(CB.out _ HK4.out).mono ?_
   rintro e V5 ⟨rfl,L5,u1,u2⟩
   have S5:Hid (St N V5 b r L5):=u1
   have T5:Hid (To b w L V5 L5):=(T3.out.trans (to_below L HK4.out)).trans u2
   clear u1 u2
   go_wp2_with fail
   refine hK.out _ _ ?_
   clear hK K
   try go_simp
   refine doneZ (by kernel_rfl) ?_ _
   clear hH
   go_wp2_with fail
   refine bodyPost_end (results_none rfl _ _ _) rfl ⟨rfl,L5,S5.out,T5.out⟩
  ·go_simp
   refine(CF.out _ ((Below.refl _ _).drew)).mono ?_
   rintro e V4 ⟨rfl,hk4⟩
   have HK4:Hid (Below V3.heap.size V3 V4):=below_first hk4 (Nat.le_refl _)
   go_wp2_with fail
   refine hK.out _ _ (⟨keepC hk4 (hH.1),keepC hk4 (hH.2)⟩) (fun hN=>?_)
   clear hK K hH
   have hH:=hN
   clear hN
   try go_simp
   refine zC 5 rfl (fun K hK=>?_)
   have hc:=hH.1
   go_simp
   clear hc
   refine hK.out _ _ (hH) (fun hN=>?_)
   clear hK K hH
   have hH:=hN
   clear hN
   try go_simp
   refine tU 9 (.pointer (some ⟨ug,uo+j*28,none⟩)) rfl hH ?_;try go_simp
   refine tU 10 (.pointer (some ⟨ug,uo+j*28+1,none⟩)) rfl hH ?_;try go_simp
   refine tS 11 (.int .u32 o.pc) rfl (Or.inl ⟨by rfl,by intro wz hSw;have hc:=hSw.2;go_simp⟩) hH ?_;try go_simp
   refine zL 12 rfl (fun K hK=>?_)
   go_simp
   refine(CB.out _ HK4.out).mono ?_
   rintro e V5 ⟨rfl,L5,u1,u2⟩
   have S5:Hid (St N V5 b r L5):=u1
   have T5:Hid (To b w L V5 L5):=(T3.out.trans (to_below L HK4.out)).trans u2
   clear u1 u2
   go_wp2_with fail
   refine hK.out _ _ ?_
   clear hK K
   try go_simp
   refine doneZ (by kernel_rfl) ?_ _
   clear hH
   go_wp2_with fail
   refine bodyPost_end (results_none rfl _ _ _) rfl ⟨rfl,L5,S5.out,T5.out⟩
theorem back_ok {s:Cr} {m:Nat→Int} (h:BackOk s m) (hb:s.bck<10000000) (e pc:Int):BackOk (Co.back s e pc) m:=by
 obtain⟨l1,l2,hu,h1,h2⟩:=rise_split e h.bk.rise
 have hl:=h.lenU
 have hd:=h.dis
 have hr:=h.bk.rise
 have ho:=h.bk.olds
 have hrd:=h.rd
 rw[hu]at hl hd hr ho hrd
 rw[tos_app,List.append_assoc]at hd
 rw[back_at h.bk hu e pc h1 h2]
 refine⟨⟨(olds_app.1 ho).1,rfl,(rise_app.1 hr).1,rfl⟩,hd,fun o ho=>hrd o (List.mem_append_left _ ho),h.low,h.high,?_,?_,?_,?_⟩
 ·show l1.length≤_
  rw[List.length_append]at hl
  omega
 ·have:=h.lenA
  have:=List.length_filter_le (fun a:Ac=>!decide (e≤a.seq)) s.asked
  show(s.asked.filter _).length≤_
  omega
 ·have:=h.bck0
  show 0≤if l2=[]then s.bck else s.bck+1
  split<;>omega
 ·have:=h.bck1
  show(if l2=[]then s.bck else s.bck+1)≤_
  split<;>omega
theorem settle_ok {s:Cr} {m:Nat→Int} {q:Int} {c:Cm} (h:SetOk s m q c) (hb:s.bck<10000000):BackOk (settle s q c) m:=by
 have hk:(setA s.asked q (stA q c)).length≤10000000:=by rw[setA_len];exact h.back.lenA
 unfold settle
 simp only[]
 split
 ·exact h.back.asks hk
 ·exact back_ok (h.back.asks hk) hb _ _
theorem fill_ok {s:Cr} {m:Nat→Int} (h:BackOk s m) (o:Dg) (c:Cm):BackOk (fillC s o c) m:=by
 rw[fillC_is]
 exact⟨⟨h.bk.olds,h.bk.reg,h.bk.rise,h.bk.slo⟩,h.dis,h.rd,h.low,h.high,h.lenU,h.lenA,h.bck0,h.bck1⟩
def fin0 (s:Cr) (o:Dg) (c:Cm):Cr:={s with under:=putO s.under o.seq (fun o=>{o with st:=2,c:=c}),slots:=donS s.slots o.seq}
theorem fin1_is (s:Cr) (o:Dg) (c:Cm):fin1 s o c=if sts o.i then settle (fin0 s o c) o.seq c else fin0 s o c:=rfl
theorem fin0_ok {K:Int} {s:Cr} {m:Nat→Int} (A:Al mach K s m) (hK:K≤9000000) {l1 l2:List Dg} {o:Dg} (hu:s.under=l1++o::l2) (h2:o.st≠2) (c:Cm):BackOk (fin0 s o c) m:=by
 have hr:Rise (l1++o::l2):=hu▸A.inv.rise
 have hun:putO s.under o.seq (fun o=>{o with st:=2,c:=c})=l1++{o with st:=2,c:=c}::l2:=by rw[hu];exact putO_at hr _
 have hsl:donS s.slots o.seq=(l1++{o with st:=2,c:=c}::l2).map slot:=by
  rw[A.inv.slo,hu]
  exact donS_at hr (by show(o.seq,decide ((2:Int)=2))=_;rfl)
 have hmE:mE m (l1++{o with st:=2,c:=c}::l2)=s.regs:=by
  rw[←A.inv.reg,hu,mE_app,mE_app]
  exact mE_put rfl rfl
 have hol:Olds m (l1++o::l2):=olds_ch (hu▸A.inv.ch)
 have htos:tos (l1++{o with st:=2,c:=c}::l2)=tos s.under:=by rw[hu,tos_app,tos_app];rfl
 have hlen:=A.len
 rw[hu]at hlen
 have h3:=A.rg.lenA
 have h4:=A.rg.bck
 unfold fin0
 rw[hun,hsl]
 refine⟨⟨olds_put hol rfl rfl rfl,hmE,rise_put hr rfl,rfl⟩,?_,fun q hq=>?_,A.low,A.rg.phys,?_,?_,A.bck,?_⟩
 ·show Dis s.phys m (tos (l1++_::l2)++s.free)
  rw[htos]
  exact A.inv.dis
 ·have hrd:=ch_rds mach_ok A.inv.ch
  rw[hu]at hrd
  rcases List.mem_append.1 hq with h|h
  ·exact hrd q (List.mem_append_left _ h)
  ·rcases List.mem_cons.1 h with h|h
   ·rw[h];exact hrd o (by simp)
   ·exact hrd q (List.mem_append_right _ (List.mem_cons_of_mem _ h))
 ·simp at hlen⊢
  omega
 ·show s.asked.length≤_
  omega
 ·show s.bck≤_
  omega
theorem fin0_set {K:Int} {s:Cr} {m:Nat→Int} (A:Al mach K s m) (hK:K≤9000000) {l1 l2:List Dg} {o:Dg} (hu:s.under=l1++o::l2) (h2:o.st≠2) {c:Cm} (hc:CmR c) (hs:sts o.i=true):SetOk (fin0 s o c) m o.seq c:=by
 have ho:o∈s.under:=by rw[hu];simp
 refine⟨fin0_ok A hK hu h2 c,A.uq,A.rg.ask,⟨entA o,A.inv.ask.sto o ho hs,?_⟩,fun a ha=>?_,hc⟩
 ·unfold entA
  rw[if_neg h2]
  simp[st0]
 ·obtain⟨p,hp,e,_⟩:=A.inv.ask.of a ha
  refine⟨if p.seq=o.seq then{p with st:=2,c:=c}else p,List.mem_map.2 ⟨p,hp,rfl⟩,?_⟩
  rw[e]
  split<;>rfl
theorem fin1_ok {K:Int} {s:Cr} {m:Nat→Int} (A:Al mach K s m) (hK:K≤9000000) {l1 l2:List Dg} {o:Dg} (hu:s.under=l1++o::l2) (h2:o.st≠2) {c:Cm} (hc:CmR c):BackOk (fin1 s o c) m:=by
 have h4:=A.rg.bck
 rw[fin1_is]
 split
 ·rename_i hs
  exact settle_ok (fin0_set A hK hu h2 hc hs) (by show s.bck<_;omega)
 ·exact fin0_ok A hK hu h2 c
theorem fin0_put {s:Cr} {l1 l2:List Dg} {o:Dg} (hu:s.under=l1++o::l2) (hr:Rise s.under) (c:Cm):{({s with under:=s.under.set l1.length {o with st:=2,c:=c}}:Cr)with slots:=donS s.slots o.seq}=fin0 s o c:=by
 unfold fin0
 rw[(put_set hu hr (fun o=>{o with st:=2,c:=c})).1]
theorem fills_to {K:Int} {s:Cr} {m:Nat→Int} (A:Al mach K s m) {o:Dg} (ho:o∈s.under) {c:Cm} (hc:CmIs s.n o.i o.pc c):c.rd≠0→0≤o.to∧o.to<96:=fun h=>by
 obtain⟨l1,l2,hu,hloc⟩:=ch_each A.inv.ch ho
 obtain⟨_,_,_,h4⟩:=reads_rng mach_ok A.inv ho A.rg.phys
 refine h4 ?_
 rw[hloc.rd]
 by_cases h0:c.st=0
 ·rw[←hc.gives h0];exact h
 ·exact absurd (hc.stops h0).2.1 h
end Go.Proofs.YtpiohehijkpghabGreatDoor.Co
