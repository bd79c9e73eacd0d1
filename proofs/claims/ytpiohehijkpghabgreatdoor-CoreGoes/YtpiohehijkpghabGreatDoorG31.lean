/- Taking back: the program. -/
import Derived.Test.YtpiohehijkpghabGreatDoorG01
import Derived.Test.YtpiohehijkpghabGreatDoorG30
import Derived.Test.YtpiohehijkpghabGreatDoorG17
set_option maxRecDepth 20000
set_option maxHeartbeats 1000000
namespace Go.Proofs.YtpiohehijkpghabGreatDoor.Co
open Go.RowKit
open Hy
open Wi Od Re.Hy
open Gu.Hy (Tb tcs)
set_option linter.unusedVariables false
set_option linter.unusedSimpArgs false
theorem infoA:(Tryz.prog.info? 100).map (fun i=>(i.zero,i.size,i.bytes))=some (some (.agg (cel ⟨0,false,false,0,0,0,false⟩).toArray),7,32):=by kernel_rfl
theorem infoU:(Tryz.prog.info? 97).map (fun i=>(i.zero,i.size,i.bytes))=some (some (dgv ⟨0,0,zin,0,0,0,0,0,0,0,false,0,false,zcm⟩),28,192):=by kernel_rfl
theorem infoC:(Tryz.prog.info? 64).map (fun i=>(i.zero,i.size,i.bytes))=some (some (cvC zcm),11,64):=by kernel_rfl
theorem cel_one (q:Ac):∀u∈cel q,u.oneCell'=true:=by
 intro u hu
 simp only[cel,List.mem_cons,List.not_mem_nil,or_false]at hu
 rcases hu with rfl|rfl|rfl|rfl|rfl|rfl|rfl<;>rfl
theorem new_cells {w:World} {cs:List Value} {t:TypeId} (j:Nat) (u:Value) (h:cs[j]?=some u):(w.alloc (.cells cs.toArray t)).cell? ⟨w.heap.size,j,none⟩=some u:=by
 rw[cell_of_row _ _ _ _ _ _ (heap_alloc_new w _)]
 simpa using h
theorem Us.below {w w':World} {e size:Nat} {v:Value} {n:Nat} {xs:List Value} (h:Us w e size v n xs) (hb:Below w.heap.size w w'):Us w' e size v n xs:=
 h.move fun g hg=>hb.block g (by obtain⟨cur,e⟩:=h.block hg;exact(Array.getElem?_eq_some_iff.1 e).1)
theorem ivl_rng {w:World} {q:Nat} {o:Dg} (h:Bx w q o):w.rangeAt q 2 (ivL o.i).toList:=bx_rng h fun i v hi=>by
 have hl:i<5:=by have:=(List.getElem?_eq_some_iff.1 hi).1;simpa[ivL]using this
 rcases(by omega:i=0∨i=1∨i=2∨i=3∨i=4)with rfl|rfl|rfl|rfl|rfl<;>exact hi
theorem ivl_size (i:In):(Tryz.prog.info? 77).map (·.size)=some (ivL i).toList.length:=size_ins
theorem cask_any {N:Nat} {w:World} {b:Nat} {s:Cr} {L:Sls} (S:St N w b s L) (o:Dg) (hn:s.asked.length≤100000000):Calls Tryz.prog 79 #[.pointer (some ⟨b,0,none⟩),dgv o] w fun e w'=>e=.returned (.tuple #[])∧∃L',St N w' b (askO s o) L'∧To b w L w' L'∧L'.m=L.m∧L'.f=L.f∧L'.s=L.s∧L'.r=L.r:=by
 obtain⟨iA,hi,hz0,hz1,hz2⟩:=info_parts infoA
 have CS:=fun w=>cstores_any o.i w
 go_enter Tryz.func79,Tryz.ntmps79
 go_upto_region 1 with fail
 refine Wi.one_box (Φ:=fun W=>Code.wp _ _ _ _ W) ?_
 intro V hV hVb
 have BV:Hid (Bx V w.heap.size o):=hV
 have SV:Hid (St N V b s L):=S.below hVb
 have TV:Hid (To b w L V L):=to_below L hVb
 have hqo:¬own b L w.heap.size:=fun h=>by have:=own_lt S h;omega
 clear hV hVb S
 generalize w.heap.size=q at*
 have HQO:Hid (¬own b L q):=hqo
 have hnq:L.a.ownBlock≠some q:=fun h=>hqo (.inr (.inr (.inr h)))
 have hqb:q≠b:=fun h=>hqo (.inl h)
 clear hqo
 obtain⟨a,c,ea⟩:=SV.out.its.ia.slice
 have kA:V.cell? ⟨b,335,none⟩=some (.slice a (s.asked.length) c):=(cell_at SV.out.row (by omega)).trans (congrArg some ea)
 have HU:Hid (Us V 100 7 (.slice a (s.asked.length) c) (s.asked.length) (flat cel s.asked)):=by have:=SV.out.its.ia;rw[ea]at this;exact this
 have hnb:(Value.slice a (s.asked.length) c).ownBlock≠some b:=fun h=>(SV.out.apart.2.2 b (by rw[ea];exact h)).2.2 rfl
 have hlt0:∀g,(Value.slice a (s.asked.length) c).ownBlock=some g→g<V.heap.size:=fun g h=>SV.out.its.lt (.inr (.inr (by rw[ea];exact h)))
 refine startZ (S:=fun w'=>w'.cell? ⟨b,335,none⟩=some (.slice a (s.asked.length) c)∧w'.cell? ⟨q,0,none⟩=some (.int .i64 o.seq)∧w'.cell? ⟨q,1,none⟩=some (.int .u32 o.pc)) [14] (by kernel_rfl) (⟨kA,bx_row BV.out 0 rfl,bx_row BV.out 1 rfl⟩) (fun hH=>?_)
 refine tU 0 (.pointer (some ⟨b,0,none⟩)) rfl hH ?_;try go_simp
 refine tU 1 (.pointer (some ⟨b,0,none⟩)) rfl hH ?_;try go_simp
 refine tU 2 (.pointer (some ⟨b,0,none⟩)) rfl hH ?_;try go_simp
 refine tU 3 (.pointer (some ⟨b,335,none⟩)) rfl hH ?_;try go_simp
 refine tS 4 (.slice a (s.asked.length) c) rfl (Or.inl ⟨by rfl,by intro wz hSw;have hc:=hSw.1;go_simp⟩) hH ?_;try go_simp
 refine tU 5 (.pointer (some ⟨q,0,none⟩)) rfl hH ?_;try go_simp
 refine tS 6 (.int .i64 o.seq) rfl (Or.inl ⟨by rfl,by intro wz hSw;have hc:=hSw.2.1;go_simp⟩) hH ?_;try go_simp
 refine tU 7 (.pointer (some ⟨q,1,none⟩)) rfl hH ?_;try go_simp
 refine tS 8 (.int .u32 o.pc) rfl (Or.inl ⟨by rfl,by intro wz hSw;have hc:=hSw.2.2;go_simp⟩) hH ?_;try go_simp
 refine tU 9 (.agg #[.int .i64 o.seq,.bool false,.bool true,.int .u32 o.pc,.int .i64 4,.int .u32 0,.bool true]) rfl hH ?_;try go_simp
 refine zC 10 rfl (fun K hK=>?_)
 go_simp
 refine hK.out _ _ (⟨keepA _ (hH.1),keepA _ (hH.2.1),keepA _ (hH.2.2)⟩) (fun hN=>?_)
 clear hK K hH
 have hH:=hN
 clear hN
 try go_simp
 refine zC 11 rfl (fun K hK=>?_)
 rw[if_pos (by rfl)]
 refine wp_append_us _ _ 59 rfl 100 iA _ 7 32 Tryz.underlying59 hi hz0 hz1 hz2 rfl (by decide) _ (s.asked.length) _ rfl (HU.out.below ((Below.refl _ _).drew.alloc (Nat.le_refl _) _)) V.heap.size (cel (ownA o)) rfl rfl (fun j u hj=>new_cells (w:=V.drew) j u hj) (cel_one _) (by omega) (by omega) ?_
 intro v1 w1 hU1 hG1 hF1
 obtain⟨p1,c1,rfl⟩:=hU1.slice
 have fA:w1.frozen? ⟨b,335,none⟩=false:=frozen_of_row _ _ _ _ _ ((hG1.block b (by have:=SV.out.lt;simp;omega) (fun h=>hnb h.symm)).trans ((Below.heap_alloc _ _ _ SV.out.lt).trans SV.out.row))
 have HU1:Hid (Us w1 100 7 (.slice p1 ((s.asked.length)+1) c1) ((s.asked.length)+1) (flat cel s.asked++cel (ownA o))):=hU1
 have HG1:Hid (V.grownBy w1 L.a.ownBlock):=by rw[ea];exact grown_drew (grown_alloc hG1 (fun g hg=>hlt0 g hg))
 have HF1:Hid (∀g,(Value.slice p1 ((s.asked.length)+1) c1).ownBlock=some g→L.a.ownBlock=some g∨V.heap.size≤g):=fun g hg=>(hF1 g hg).imp (fun h=>by rw[ea];exact h) (fun h=>Nat.le_trans (by simp) h)
 refine hK.out _ _ (⟨keepG hG1 (hH.1) (hnb),keepG hG1 (hH.2.1) (by rw[←ea];exact hnq),keepG hG1 (hH.2.2) (by rw[←ea];exact hnq)⟩) (fun hN=>?_)
 clear hK K hH
 have hH:=hN
 clear hN
 try go_simp
 have cA:=hH.1
 clear hU1 hG1 hF1 HU hnb hlt0 kA
 refine tU 12 (.pointer (some ⟨b,0,none⟩)) rfl hH ?_;try go_simp
 refine tU 13 (.pointer (some ⟨b,335,none⟩)) rfl hH ?_;try go_simp
 refine zL 14 rfl (fun K hK=>?_)
 go_simp
 refine hK.out _ _ ?_
 clear hK K
 try go_simp
 refine doneZ (by kernel_rfl) ?_ _
 obtain⟨S1,T1⟩:=St.appA SV.out (ownA o) HU1.out HG1.out HF1.out
 clear HU1 HG1 HF1 hH cA fA
 generalize w1.setCell ⟨b,335,none⟩ (.slice p1 ((s.asked.length)+1) c1)=W1 at*
 generalize Value.slice p1 ((s.asked.length)+1) c1=v1 at*
 have B1:Hid (Bx W1 q o):=BV.out.to T1 HQO.out
 have HQ1:Hid (¬own b {L with a:=v1} q):=BV.out.not T1 HQO.out
 have T1':Hid (To b w L W1 {L with a:=v1}):=TV.out.trans T1
 have S1':Hid (St N W1 b {s with asked:=s.asked++[ownA o]} {L with a:=v1}):=S1
 have hnq:v1.ownBlock≠some q:=fun h=>HQ1.out (.inr (.inr (.inr h)))
 clear S1 T1 TV SV BV HQO ea
 go_wp2_with(refine wpList_load_mid rfl 77 _ rfl q 2 rfl (ivL o.i).toList _ (ivl_rng B1.out) Tryz.underlying77 rfl (ivl_size _) ?_)
 refine(CS _).mono ?_
 rintro e V2 ⟨rfl,hk2⟩
 have B2:Hid (Bx V2 q o):=B1.out.below hk2
 have SV:Hid (St N V2 b {s with asked:=s.asked++[ownA o]} {L with a:=v1}):=S1'.out.below hk2
 have T2:Hid (To b w L V2 {L with a:=v1}):=T1'.out.trans (to_below _ hk2)
 clear hk2 B1 S1' T1' CS
 cases hst:sts o.i with
 |false=>
  have HE:Hid (askO s o={s with asked:=s.asked++[ownA o]}):=by show _=_;unfold askO;rw[hst];rfl
  clear hst
  go_wp2_with fail
  refine bodyPost_end (results_none rfl _ _ _) rfl ?_
  exact⟨rfl,_,by rw[HE.out];exact SV.out,T2.out,rfl,rfl,rfl,rfl⟩
 |true=>
  have e1:askO s o={s with asked:=s.asked++[ownA o]++[st0 o.seq]}:=by unfold askO;rw[hst];simp
  clear hst
  obtain⟨s',hs'⟩:∃s':Cr,s'={s with asked:=s.asked++[ownA o]}:=⟨_,rfl⟩
  obtain⟨L',hL'⟩:∃L':Sls,L'={L with a:=v1}:=⟨_,rfl⟩
  have HE:Hid (askO s o={s' with asked:=s'.asked++[st0 o.seq]}):=by show _=_;rw[e1,hs']
  have hn':s'.asked.length≤100000001:=by rw[hs'];simp;omega
  have hnq':L'.a.ownBlock≠some q:=by rw[hL'];exact hnq
  have HSm:Hid (L'.m=L.m∧L'.f=L.f∧L'.s=L.s∧L'.r=L.r):=by rw[hL'];exact⟨rfl,rfl,rfl,rfl⟩
  rw[←hs',←hL']at SV
  rw[←hL']at T2
  clear e1 hs' hL' hnq HQ1
  go_upto_region 3 with fail
  obtain⟨a2,c2,ea⟩:=SV.out.its.ia.slice
  have kA:V2.cell? ⟨b,335,none⟩=some (.slice a2 (s'.asked.length) c2):=(cell_at SV.out.row (by omega)).trans (congrArg some ea)
  have HU:Hid (Us V2 100 7 (.slice a2 (s'.asked.length) c2) (s'.asked.length) (flat cel s'.asked)):=by have:=SV.out.its.ia;rw[ea]at this;exact this
  have hnb:(Value.slice a2 (s'.asked.length) c2).ownBlock≠some b:=fun h=>(SV.out.apart.2.2 b (by rw[ea];exact h)).2.2 rfl
  have hlt0:∀g,(Value.slice a2 (s'.asked.length) c2).ownBlock=some g→g<V2.heap.size:=fun g h=>SV.out.its.lt (.inr (.inr (by rw[ea];exact h)))
  refine startZ (S:=fun w'=>w'.cell? ⟨b,335,none⟩=some (.slice a2 (s'.asked.length) c2)∧w'.cell? ⟨q,0,none⟩=some (.int .i64 o.seq)) [12] (by kernel_rfl) (⟨kA,bx_row B2.out 0 rfl⟩) (fun hH=>?_)
  refine tU 0 (.pointer (some ⟨b,0,none⟩)) rfl hH ?_;try go_simp
  refine tU 1 (.pointer (some ⟨b,0,none⟩)) rfl hH ?_;try go_simp
  refine tU 2 (.pointer (some ⟨b,0,none⟩)) rfl hH ?_;try go_simp
  refine tU 3 (.pointer (some ⟨b,335,none⟩)) rfl hH ?_;try go_simp
  refine tS 4 (.slice a2 (s'.asked.length) c2) rfl (Or.inl ⟨by rfl,by intro wz hSw;have hc:=hSw.1;go_simp⟩) hH ?_;try go_simp
  refine tU 5 (.pointer (some ⟨q,0,none⟩)) rfl hH ?_;try go_simp
  refine tS 6 (.int .i64 o.seq) rfl (Or.inl ⟨by rfl,by intro wz hSw;have hc:=hSw.2;go_simp⟩) hH ?_;try go_simp
  refine tU 7 (.agg #[.int .i64 o.seq,.bool true,.bool false,.int .u32 0,.int .i64 0,.int .u32 0,.bool false]) rfl hH ?_;try go_simp
  refine zC 8 rfl (fun K hK=>?_)
  go_simp
  refine hK.out _ _ (⟨keepA _ (hH.1),keepA _ (hH.2)⟩) (fun hN=>?_)
  clear hK K hH
  have hH:=hN
  clear hN
  try go_simp
  refine zC 9 rfl (fun K hK=>?_)
  rw[if_pos (by rfl)]
  refine wp_append_us _ _ 59 rfl 100 iA _ 7 32 Tryz.underlying59 hi hz0 hz1 hz2 rfl (by decide) _ (s'.asked.length) _ rfl (HU.out.below ((Below.refl _ _).drew.alloc (Nat.le_refl _) _)) V2.heap.size (cel (st0 o.seq)) rfl rfl (fun j u hj=>new_cells (w:=V2.drew) j u hj) (cel_one _) (by omega) (by omega) ?_
  intro v1 w1 hU1 hG1 hF1
  obtain⟨p1,c1,rfl⟩:=hU1.slice
  have fA:w1.frozen? ⟨b,335,none⟩=false:=frozen_of_row _ _ _ _ _ ((hG1.block b (by have:=SV.out.lt;simp;omega) (fun h=>hnb h.symm)).trans ((Below.heap_alloc _ _ _ SV.out.lt).trans SV.out.row))
  have HU1:Hid (Us w1 100 7 (.slice p1 ((s'.asked.length)+1) c1) ((s'.asked.length)+1) (flat cel s'.asked++cel (st0 o.seq))):=hU1
  have HG1:Hid (V2.grownBy w1 L'.a.ownBlock):=by rw[ea];exact grown_drew (grown_alloc hG1 (fun g hg=>hlt0 g hg))
  have HF1:Hid (∀g,(Value.slice p1 ((s'.asked.length)+1) c1).ownBlock=some g→L'.a.ownBlock=some g∨V2.heap.size≤g):=fun g hg=>(hF1 g hg).imp (fun h=>by rw[ea];exact h) (fun h=>Nat.le_trans (by simp) h)
  refine hK.out _ _ (⟨keepG hG1 (hH.1) (hnb),keepG hG1 (hH.2) (by rw[←ea];exact hnq')⟩) (fun hN=>?_)
  clear hK K hH
  have hH:=hN
  clear hN
  try go_simp
  have cA:=hH.1
  clear hU1 hG1 hF1 HU hnb hlt0 kA
  refine tU 10 (.pointer (some ⟨b,0,none⟩)) rfl hH ?_;try go_simp
  refine tU 11 (.pointer (some ⟨b,335,none⟩)) rfl hH ?_;try go_simp
  refine zL 12 rfl (fun K hK=>?_)
  go_simp
  refine hK.out _ _ ?_
  clear hK K
  try go_simp
  refine doneZ (by kernel_rfl) ?_ _
  obtain⟨S1,T1⟩:=St.appA SV.out (st0 o.seq) HU1.out HG1.out HF1.out
  clear HU1 HG1 HF1 hH cA fA
  generalize w1.setCell ⟨b,335,none⟩ (.slice p1 ((s'.asked.length)+1) c1)=W3 at*
  generalize Value.slice p1 ((s'.asked.length)+1) c1=v1 at*
  have T3:=T2.out.trans T1
  clear T1 T2 SV
  go_wp2_with fail
  refine bodyPost_end (results_none rfl _ _ _) rfl ?_
  exact⟨rfl,_,by rw[HE.out];exact S1,T3,HSm.out⟩
end Go.Proofs.YtpiohehijkpghabGreatDoor.Co
namespace Go.Proofs.YtpiohehijkpghabGreatDoor.Re
open Go.RowKit Go.Maps
open Re.Hy
set_option linter.unusedVariables false
theorem nUndo_far (T:Array Value) (P:Int) (r f:Nat→Int) (a:Option Addr) (n c:Nat) (hT:Hid (T=mcs P r (.slice a n c))) (hm:Hid (MayBe P n r f))
  (h0:T[0]?=some (.int .i64 P)) (hF:T[33]?=some (.slice a n c)) (hR:Hid (Rg r)) (k:Nat) (k0:1≤k) (k1:k<32) (x:Int) (hx:Hid (Idle P n r f x)) (w:World) (hL:Hid (Lie w a n c f)):
  Calls Tryz.prog 136 #[.agg T,.int .i64 k,.int .i64 x] w fun e w'=>(∃a' c',e=.returned (.tuple #[.agg (mcs P (up r k x) (.slice a' (n+1) c')),.bool true])∧Lie w' a' (n+1) c' (hd (r k) f)∧Far w.heap.size a')∧Below w.heap.size w w':=by
 have hn64:=hm.out.few.2
 have C1:=fun w=>nMay_any T P r f a n c true hT ⟨fun _=>hm.out,fun _=>rfl⟩ h0 hF hR (by omega) w
 have C3:=fun w=>nidle_any T P r f a n c x true hT ⟨fun _=>hx.out,fun _=>rfl⟩ h0 hF hR hn64 hm.out.high w
 have HI:Hid ((Tryz.prog.info? 54).map (·.size)=some T.size):=map_info hT.out
 have C2:=nnamed_any (k:Int)
 rw[decide_eq_true (⟨by omega,by omega⟩:(1:Int)≤k∧(k:Int)<32)]at C2
 have hcR:T[1+k]?=some (.int .i64 (r k)):=by rw[hT.out];exact mcs_R _ _ _ _ k1
 go_enter Tryz.func136,Tryz.ntmps136
 go_upto_region 1 with fail
 refine two_new (Φ:=fun W=>Code.wp _ _ _ _ W) ?_
 intro W0 HR' HZ' HB' hs0
 have HR0:Hid (W0.heap[w.heap.size]?=some (.cells T 54 (0,0))):=HR'
 have HB0:Hid (Below w.heap.size w W0):=HB'
 obtain⟨Z,hZ,HZ0⟩:∃Z:Array Value,Hid (Z.size=34)∧Hid (W0.heap[w.heap.size+1]?=some (.cells Z 54 (0,0))):=⟨zm,zm_size,HZ'⟩
 clear HR' HZ' HB'
 go_wp2_with(refine wpList_load_row_g (by rfl) 54 _ rfl _ rfl 54 _ (0,0) _ HR0.out Tryz.underlying54 rfl HI.out ?_)
 refine(C1 _ (hL.out.below (Nat.le_refl _) HB0.out)).mono ?_
 rintro e W1 ⟨rfl,hk⟩
 have HR1:Hid (W1.heap[w.heap.size]?=some (.cells T 54 (0,0))):=(hk.block _ (heap_lt HR0.out)).trans HR0.out
 have HZ1:Hid (W1.heap[w.heap.size+1]?=some (.cells Z 54 (0,0))):=(hk.block _ (heap_lt HZ0.out)).trans HZ0.out
 have HB1:Hid (Below w.heap.size w W1):=HB0.out.trans (hk.mono HB0.out.size)
 have hs1:w.heap.size+1<W1.heap.size:=heap_lt HZ1.out
 clear hk HR0 HZ0 HB0 hs0
 go_wp2_with fail
 refine(C2 _).mono ?_
 rintro e w' ⟨rfl,rfl⟩
 obtain⟨W1,hW1⟩:∃W1,W1=w':=⟨_,rfl⟩
 rw[←hW1]at HR1 HZ1 HB1 hs1⊢
 clear hW1
 go_wp2_with(refine wpList_load_row_g (by rfl) 54 _ rfl _ rfl 54 _ (0,0) _ HR1.out Tryz.underlying54 rfl HI.out ?_)
 refine(C3 _ (hL.out.below (Nat.le_refl _) HB1.out)).mono ?_
 rintro e W2 ⟨rfl,hk⟩
 have HR2:Hid (W2.heap[w.heap.size]?=some (.cells T 54 (0,0))):=(hk.block _ (heap_lt HR1.out)).trans HR1.out
 have HZ2:Hid (W2.heap[w.heap.size+1]?=some (.cells Z 54 (0,0))):=(hk.block _ (heap_lt HZ1.out)).trans HZ1.out
 have HB2:Hid (Below w.heap.size w W2):=HB1.out.trans (hk.mono HB1.out.size)
 have hs2:w.heap.size+1<W2.heap.size:=heap_lt HZ2.out
 clear hk HR1 HZ1 HB1 hs1
 have c33:W2.cell? ⟨w.heap.size,33,none⟩=some (.slice a n c):=(cell_of_row _ w.heap.size _ _ _ _ HR2.out).trans hF
 have cR:W2.cell? ⟨w.heap.size,1+k,none⟩=some (.int .i64 (r k)):=(cell_of_row _ w.heap.size _ _ _ _ HR2.out).trans hcR
 have C4:∀W3:World,W3.heap[W2.heap.size]?=some (.cells #[.int .i64 (r k)] 3 (0,0))→W3.heap[W2.heap.size+1]?=some (.cells #[.slice (some ⟨W2.heap.size,0,none⟩) 1 1,.slice a n c] 29 (0,0))→Below W2.heap.size W2 W3→W2.heap.size+2≤W3.heap.size→
   Calls Tryz.prog 90 #[.slice (some ⟨W2.heap.size+1,0,none⟩) 2 2] W3 fun e W4=>∃a' c',e=.returned (.slice a' (1+n) c')∧Hid (Lie W4 a' (1+n) c' (cat (fun _=>r k) 1 f))∧Hid (Far (w.heap.size+2) a')∧Hid (W4.heap[w.heap.size]?=some (.cells T 54 (0,0)))∧Hid (W4.heap[w.heap.size+1]?=some (.cells Z 54 (0,0)))∧Hid (Below w.heap.size w W4)
    ∧W4.cell? ⟨w.heap.size,33,none⟩=some (.slice a n c)∧W4.cell? ⟨w.heap.size,1+k,none⟩=some (.int .i64 (r k))∧(∀j,W4.frozen? ⟨w.heap.size,j,none⟩=false):=by
  intro W3 ha hb3 hk hs3
  have l1:Hid (Lie W3 a n c f):=hL.out.below (Nat.le_refl _) (HB2.out.trans (hk.mono HB2.out.size))
  have l2:Hid (Lie W3 (some ⟨W2.heap.size,0,none⟩) 1 1 (fun _=>r k)):=by
   refine⟨Nat.le_refl _,by unfold maxLen;omega,fun h=>(nomatch h),fun i hi=>hR.out k k1,fun y hy _=>⟨W2.heap.size,0,(Option.some.inj hy).symm,fun i hi=>?_⟩⟩
   obtain rfl:i=0:=by omega
   rw[cell_of_row _ _ _ _ _ _ ha]
   rfl
  have e0:W3.cell? ⟨W2.heap.size+1,0,none⟩=some (.slice (some ⟨W2.heap.size,0,none⟩) 1 1):=by rw[cell_of_row _ _ _ _ _ _ hb3];rfl
  have e1:W3.cell? ⟨W2.heap.size+1,1,none⟩=some (.slice a n c):=by rw[cell_of_row _ _ _ _ _ _ hb3];rfl
  refine(iConcat_two (W2.heap.size+1) (some ⟨W2.heap.size,0,none⟩) a 1 1 n c (fun _=>r k) f (by omega) (by omega) W3 (by omega) e0 e1 l2 l1).mono ?_
  rintro e W4 ⟨⟨a',c',rfl,hl,hfar⟩,hk4⟩
  have r4:W4.heap[w.heap.size]?=some (.cells T 54 (0,0)):=(hk4.block _ (by omega)).trans ((hk.block _ (by omega)).trans HR2.out)
  have z4:W4.heap[w.heap.size+1]?=some (.cells Z 54 (0,0)):=(hk4.block _ (by omega)).trans ((hk.block _ (by omega)).trans HZ2.out)
  exact⟨a',c',rfl,hl,hfar.mono (by omega),r4,z4,HB2.out.trans ((hk.mono HB2.out.size).trans (hk4.mono (by omega))),(cell_of_row _ w.heap.size _ _ _ _ r4).trans hF,(cell_of_row _ w.heap.size _ _ _ _ r4).trans hcR,fun j=>frozen_of_row _ _ j _ _ r4⟩
 have HC4:=Hid.mk' C4
 have hs2':w.heap.size<W2.heap.size:=by omega
 have hs2b:(W2.cell? ⟨w.heap.size,33,none⟩).isSome=true:=by rw[c33];rfl
 have hs2c:(W2.cell? ⟨w.heap.size,1+k,none⟩).isSome=true:=by rw[cR];rfl
 clear C4 C1 C2 C3
 go_wp2_with fail
 go_region_with (go_at_call 90;refine(HC4.out _ (drew2a _ _ _) (drew2b _ _ _) (drew2c _ _ _) (drew2d _ _ _)).mono ?_;rintro e W4 ⟨a',c',rfl,HL4,HA4,HR4,HZ4,HB4,c33,cR,hf⟩)
 all_goals
  have hs4:w.heap.size+1<W4.heap.size:=heap_lt HZ4.out
  obtain⟨M,hM⟩:∃M,Hid (M=mcs P (up r k x) (.slice a' (1+n) c')):=⟨_,rfl⟩
  have eM:(T.setIfInBounds 33 (.slice a' (1+n) c')).setIfInBounds (1+k) (.int .i64 x)=M:=by rw[hM.out,hT.out,set_F,set_R _ _ _ _ _ k1]
  have HR5:Hid (((W4.setCell ⟨w.heap.size,33,none⟩ (.slice a' (1+n) c')).setCell ⟨w.heap.size,1+k,none⟩ (.int .i64 x)).heap[w.heap.size]?=some (.cells M 54 (0,0))):=by rw[←eM];exact(row_setCell (row_setCell HR4.out))
  have HZ5:Hid (((W4.setCell ⟨w.heap.size,33,none⟩ (.slice a' (1+n) c')).setCell ⟨w.heap.size,1+k,none⟩ (.int .i64 x)).heap[w.heap.size+1]?=some (.cells Z 54 (0,0))):=(row_setCell_other (row_setCell_other HZ4.out (by omega)) (by omega))
  have HB5:Hid (Below w.heap.size w ((W4.setCell ⟨w.heap.size,33,none⟩ (.slice a' (1+n) c')).setCell ⟨w.heap.size,1+k,none⟩ (.int .i64 x))):=((HB4.out.setCell (Nat.le_refl _) _).setCell (Nat.le_refl _) _)
  have MI:Hid ((Tryz.prog.info? 54).map (·.size)=some M.size):=map_info hM.out
  have MO:Hid (M.all (·.oneCell')=true):=by show _=_;rw[hM.out];exact ones_mcs _ _ _ _ _
  have MZ:Hid (Z.size=M.size):=by show _=_;rw[hM.out,hZ.out];rfl
  clear eM HR4 HZ4 HB4
  go_wp2_with(first|(refine wpList_load_row_g (by rfl) 54 _ rfl _ rfl 54 _ (0,0) _ HR5.out Tryz.underlying54 rfl MI.out ?_)|(refine wpList_store_row rfl 54 _ _ rfl _ _ rfl rfl 54 _ HZ5.out MI.out MZ.out MO.out ?_))
  refine bodyPost_ret (v:=.tuple #[.agg M,.bool true]) ?_ rfl ⟨⟨a',c',by rw[hM.out];rw[Nat.add_comm 1 n],?_,HA4.out.mono (by omega)⟩,?_⟩
  ·have L2:=run_loadVar_row (P:=Tryz.prog) _ _ 54 54 M (0,0) _ (setRow_heap _ _ _ _ _ _ HZ5.out) Tryz.underlying54 rfl MI.out
   simp[results,Tryz.results136,asAddr,L2]
  ·rw[Nat.add_comm n 1]
   refine Lie.congr (f:=cat (fun _=>r k) 1 f) (HL4.out.moved fun y hy=>?_) (fun i _=>by unfold cat hd;by_cases h:i=0<;>simp[h])
   have:=HA4.out y hy
   rw[setRow_other _ _ _ _ (by omega)]
   exact(heap_set_other _ (by omega)).trans (heap_set_other _ (by omega))
  ·exact below_row HB5.out (by omega) _
end Go.Proofs.YtpiohehijkpghabGreatDoor.Re
