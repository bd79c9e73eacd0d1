/- A core that settles where a store is: the program. -/
import Derived.Test.YtpiohehijkpghacGreatDoorG28
import Derived.Test.YtpiohehijkpghacGreatDoorG01
import Derived.Test.YtpiohehijkpghacGreatDoorG31
set_option maxRecDepth 20000
set_option maxHeartbeats 6000000
namespace Go.Proofs.YtpiohehijkpghacGreatDoor.Co
open Go.RowKit
open Hy
open Wi Od Re.Hy
open Gu.Hy (Tb tcs)
set_option linter.unusedVariables false
set_option linter.unusedSimpArgs false
def Cb (w:World) (p:Nat) (c:Cm):Prop:=w.heap[p]?=some (.cells (cC c) 68 (0,0))
theorem Cb.below {w w':World} {p:Nat} {c:Cm} (h:Cb w p c) (hb:Below w.heap.size w w'):Cb w' p c:=(hb.block p (Array.getElem?_eq_some_iff.1 h).1).trans h
theorem Cb.lt {w:World} {p:Nat} {c:Cm} (h:Cb w p c):p<w.heap.size:=(Array.getElem?_eq_some_iff.1 h).1
theorem Cb.to {b:Nat} {w w':World} {L L':Sls} {p:Nat} {c:Cm} (h:Cb w p c) (hT:To b w L w' L') (hp:¬own b L p):Cb w' p c:=(hT.block p h.lt hp).trans h
theorem Cb.not {b:Nat} {w w':World} {L L':Sls} {p:Nat} {c:Cm} (h:Cb w p c) (hT:To b w L w' L') (hp:¬own b L p):¬own b L' p:=not_own hT.fresh hp h.lt
theorem cb_row {w:World} {p:Nat} {c:Cm} (h:Cb w p c) (j:Nat) {v:Value} (hj:(cC c)[j]?=some v):w.cell? ⟨p,j,none⟩=some v:=by
 rw[cell_of_row _ _ _ _ _ _ h]
 exact hj
theorem cb_rng {w:World} {p:Nat} {c:Cm} (h:Cb w p c):w.rangeAt p 0 (cC c).toList:=fun j v hj=>by
 rw[cell_of_row _ _ _ _ _ _ h,Nat.zero_add,←Array.getElem?_toList]
 exact hj
theorem cC_size (c:Cm):(Tryz.prog.info? 68).map (·.size)=some (cC c).toList.length:=size_commit
theorem cfill_any {N:Nat} {w:World} {b:Nat} {s:Cr} {L:Sls} (S:St N w b s L) (o:Dg) (c:Cm) (hto:c.rd≠0→0≤o.to∧o.to<96):
  Calls Tryz.prog 127 #[.pointer (some ⟨b,0,none⟩),dgv o,cvC c] w fun e w'=>e=.returned (.bool (rightC s o c))∧St N w' b (fillC s o c) L∧To b w L w' L:=by
 obtain⟨r,hr⟩:∃r,r=rightC s o c:=⟨_,rfl⟩
 obtain⟨f,hf⟩:∃f,f=fillC s o c:=⟨_,rfl⟩
 rw[←hr,←hf]
 have HR:Hid (r=rightC s o c):=hr
 have HF:Hid (f=fillC s o c):=hf
 clear hr hf
 go_enter Tryz.func127,Tryz.ntmps127
 go_upto_region 1 with fail
 refine Wi.two_boxes (Φ:=fun W=>Code.wp _ _ _ _ W) ?_
 intro V h1 h2 hb hs
 have BV:Hid (Bx V w.heap.size o):=h1
 have CV:Hid (Cb V (w.heap.size+1) c):=h2
 have SV:Hid (St N V b s L):=S.below hb
 have TV:Hid (To b w L V L):=to_below L hb
 have hqb:b≠w.heap.size:=by have:=S.lt;omega
 have hpb:b≠w.heap.size+1:=by have:=S.lt;omega
 clear h1 h2 hb hs S
 generalize w.heap.size+1=p at*
 generalize w.heap.size=q at*
 obtain⟨k,hk⟩:∃k,k=c.rd:=⟨_,rfl⟩
 have c4:V.cell? ⟨p,4,none⟩=some (.int .i64 (k:Int)):=cb_row CV.out 4 (by rw[hk];rfl)
 rw[←hk]at hto
 have HKK:Hid (k=c.rd):=hk
 clear hk
 by_cases h0:k=0
 ·have hr:r=true:=by rw[HR.out];unfold rightC;rw[←HKK.out,h0];rfl
  have hf:f=s:=by rw[HF.out];unfold fillC;rw[←HKK.out,if_pos h0]
  subst hr hf
  have c4':V.cell? ⟨p,4,none⟩=some (.int .i64 0):=by rw[c4,h0];rfl
  clear c4 h0 HR HF hto
  go_wp2
  go_ret
  exact⟨rfl,SV.out,TV.out⟩
 ·have hb0:((k:Int)==0)=false:=by simp[h0]
  obtain⟨z,hz⟩:∃z:Nat,o.to=(z:Int):=Int.eq_ofNat_of_zero_le (hto h0).1
  have hz1:z<96:=by have:=(hto h0).2;omega
  have z0:0≤(z:Int):=by omega
  have z1:(z:Int)<96:=by omega
  have hf:f={s with wd:=upI s.wd (z:Int) c.val,th:=upB s.th (z:Int) true}:=by rw[HF.out];unfold fillC;rw[←HKK.out,if_neg h0,hz]
  have HR2:Hid (r=(!o.gs||decide (s.wd (z:Int)=c.val))):=by
   show _=_
   rw[HR.out]
   unfold rightC
   rw[←HKK.out,decide_eq_false h0,hz]
   rfl
  have HF2:Hid (f={s with wd:=upI s.wd (z:Int) c.val,th:=upB s.th (z:Int) true}):=hf
  have c11:V.cell? ⟨q,11,none⟩=some (.int .i64 (z:Int)):=bx_row BV.out 11 (by rw[←hz];rfl)
  have c5:V.cell? ⟨p,5,none⟩=some (.int .u32 c.val):=cb_row CV.out 5 rfl
  have c14:V.cell? ⟨q,14,none⟩=some (.bool o.gs):=bx_row BV.out 14 rfl
  have cw:=SV.out.wrd z hz1
  have ct:=SV.out.thr z hz1
  have fw:=SV.out.frozen (141+z)
  have ft:=SV.out.frozen (237+z)
  obtain⟨x,hx⟩:∃x,x=s.wd (z:Int):=⟨_,rfl⟩
  obtain⟨y,hy⟩:∃y,y=c.val:=⟨_,rfl⟩
  rw[←hx]at cw HR2
  rw[←hy]at HF2 c5 HR2
  obtain⟨g,hg⟩:∃g,g=o.gs:=⟨_,rfl⟩
  rw[←hg]at c14 HR2
  clear hf HR HF hto hz hx hy hg h0 HKK
  cases g with
  |false=>
   go_upto_region 3 with fail
   refine startZ (S:=fun w'=>w'.cell? ⟨q,14,none⟩=some (.bool false)) [] (by kernel_rfl) (c14) (fun hH=>?_)
   refine tU 0 (.pointer (some ⟨q,14,none⟩)) rfl hH ?_;try go_simp
   refine tS 1 (.bool false) rfl (Or.inl ⟨by rfl,by intro wz hSw;have hc:=hSw;go_simp⟩) hH ?_;try go_simp
   refine tU 2 (.bool true) rfl hH ?_;try go_simp
   refine tU 3 (.bool true) rfl hH ?_;try go_simp
   refine tX 4 undef rfl (Or.inr ⟨by rfl,rfl⟩) hH ?_;try go_simp
   refine tX 5 undef rfl (Or.inr ⟨by rfl,rfl⟩) hH ?_;try go_simp
   refine tX 6 undef rfl (Or.inr ⟨by rfl,rfl⟩) hH ?_;try go_simp
   refine tX 7 undef rfl (Or.inr ⟨by rfl,rfl⟩) hH ?_;try go_simp
   refine tX 8 undef rfl (Or.inr ⟨by rfl,rfl⟩) hH ?_;try go_simp
   refine tX 9 undef rfl (Or.inr ⟨by rfl,rfl⟩) hH ?_;try go_simp
   refine tX 10 undef rfl (Or.inr ⟨by rfl,rfl⟩) hH ?_;try go_simp
   refine tX 11 undef rfl (Or.inr ⟨by rfl,rfl⟩) hH ?_;try go_simp
   refine tX 12 undef rfl (Or.inr ⟨by rfl,rfl⟩) hH ?_;try go_simp
   refine tX 13 undef rfl (Or.inr ⟨by rfl,rfl⟩) hH ?_;try go_simp
   refine tU 14 (.bool true) rfl hH ?_;try go_simp
   refine tU 15 (.bool true) rfl hH ?_;try go_simp
   refine doneZ (by kernel_rfl) ?_ _
   clear hH
   go_upto_region 4 with fail
   refine startZ (S:=fun w'=>w'.cell? ⟨q,11,none⟩=some (.int .i64 (z:Int))∧w'.cell? ⟨p,5,none⟩=some (.int .u32 y)) [15] (by kernel_rfl) (⟨c11,c5⟩) (fun hH=>?_)
   refine tU 0 (.pointer (some ⟨b,0,none⟩)) rfl hH ?_;try go_simp
   refine tU 1 (.pointer (some ⟨q,11,none⟩)) rfl hH ?_;try go_simp
   refine tS 2 (.int .i64 (z:Int)) rfl (Or.inl ⟨by rfl,by intro wz hSw;have hc:=hSw.1;go_simp⟩) hH ?_;try go_simp
   refine tU 3 (.pointer (some ⟨b,0,none⟩)) rfl hH ?_;try go_simp
   refine tU 4 (.pointer (some ⟨q,11,none⟩)) rfl hH ?_;try go_simp
   refine tS 5 (.int .i64 (z:Int)) rfl (Or.inl ⟨by rfl,by intro wz hSw;have hc:=hSw.1;go_simp⟩) hH ?_;try go_simp
   refine tU 6 (.pointer (some ⟨p,5,none⟩)) rfl hH ?_;try go_simp
   refine tS 7 (.int .u32 y) rfl (Or.inl ⟨by rfl,by intro wz hSw;have hc:=hSw.2;go_simp⟩) hH ?_;try go_simp
   refine tU 8 (.pointer (some ⟨b,0,none⟩)) rfl hH ?_;try go_simp
   refine tU 9 (.pointer (some ⟨b,141,none⟩)) rfl hH ?_;try go_simp
   refine tU 10 (.pointer (some ⟨b,141+z,none⟩)) rfl hH ?_;try go_simp
   refine tU 12 (.pointer (some ⟨b,0,none⟩)) rfl hH ?_;try go_simp
   refine tU 13 (.pointer (some ⟨b,237,none⟩)) rfl hH ?_;try go_simp
   refine zC 11 rfl (fun K hK=>?_)
   go_simp
   refine hK.out _ _ (⟨keepS hH.1 hqb,keepS hH.2 hpb⟩) (fun hN=>?_)
   clear hK K hH
   have hH:=hN
   clear hN
   try go_simp
   refine tU 14 (.pointer (some ⟨b,237+z,none⟩)) rfl hH ?_;try go_simp
   refine zL 15 rfl (fun K hK=>?_)
   go_simp
   refine hK.out _ _ ?_
   clear hK K
   try go_simp
   refine doneZ (by kernel_rfl) ?_ _
   clear hH
   go_wp2
   go_ret
   obtain⟨s1,t1⟩:=SV.out.setWd z hz1 y
   obtain⟨s2,t2⟩:=s1.setTh z hz1 true
   have e1:=HF2.out
   have e2:=HR2.out
   refine⟨by rw[e2];rfl,by rw[e1];exact s2.dr.dr,((TV.out.trans t1).trans t2).dr.dr⟩
  |true=>
   by_cases hxy:x=y
   ·subst hxy
    go_upto_region 3 with fail
    refine startZ (S:=fun w'=>w'.cell? ⟨q,14,none⟩=some (.bool true)∧w'.cell? ⟨q,11,none⟩=some (.int .i64 (z:Int))∧w'.cell? ⟨b,141+z,none⟩=some (.int .u32 x)∧w'.cell? ⟨p,5,none⟩=some (.int .u32 x)) [] (by kernel_rfl) (⟨c14,c11,cw,c5⟩) (fun hH=>?_)
    refine tU 0 (.pointer (some ⟨q,14,none⟩)) rfl hH ?_;try go_simp
    refine tS 1 (.bool true) rfl (Or.inl ⟨by rfl,by intro wz hSw;have hc:=hSw.1;go_simp⟩) hH ?_;try go_simp
    refine tU 2 (.bool false) rfl hH ?_;try go_simp
    refine tU 3 (.bool false) rfl hH ?_;try go_simp
    refine tU 4 (.pointer (some ⟨b,0,none⟩)) rfl hH ?_;try go_simp
    refine tU 5 (.pointer (some ⟨q,11,none⟩)) rfl hH ?_;try go_simp
    refine tS 6 (.int .i64 (z:Int)) rfl (Or.inl ⟨by rfl,by intro wz hSw;have hc:=hSw.2.1;go_simp⟩) hH ?_;try go_simp
    refine tU 7 (.pointer (some ⟨b,0,none⟩)) rfl hH ?_;try go_simp
    refine tU 8 (.pointer (some ⟨b,141,none⟩)) rfl hH ?_;try go_simp
    refine tU 9 (.pointer (some ⟨b,141+z,none⟩)) rfl hH ?_;try go_simp
    refine tS 10 (.int .u32 x) rfl (Or.inl ⟨by rfl,by intro wz hSw;have hc:=hSw.2.2.1;go_simp⟩) hH ?_;try go_simp
    refine tU 11 (.pointer (some ⟨p,5,none⟩)) rfl hH ?_;try go_simp
    refine tS 12 (.int .u32 x) rfl (Or.inl ⟨by rfl,by intro wz hSw;have hc:=hSw.2.2.2;go_simp⟩) hH ?_;try go_simp
    refine tU 13 (.bool true) rfl hH ?_;try go_simp
    refine tU 14 (.bool true) rfl hH ?_;try go_simp
    refine tU 15 (.bool true) rfl hH ?_;try go_simp
    refine doneZ (by kernel_rfl) ?_ _
    clear hH
    go_upto_region 4 with fail
    refine startZ (S:=fun w'=>w'.cell? ⟨q,11,none⟩=some (.int .i64 (z:Int))∧w'.cell? ⟨p,5,none⟩=some (.int .u32 x)) [15] (by kernel_rfl) (⟨c11,c5⟩) (fun hH=>?_)
    refine tU 0 (.pointer (some ⟨b,0,none⟩)) rfl hH ?_;try go_simp
    refine tU 1 (.pointer (some ⟨q,11,none⟩)) rfl hH ?_;try go_simp
    refine tS 2 (.int .i64 (z:Int)) rfl (Or.inl ⟨by rfl,by intro wz hSw;have hc:=hSw.1;go_simp⟩) hH ?_;try go_simp
    refine tU 3 (.pointer (some ⟨b,0,none⟩)) rfl hH ?_;try go_simp
    refine tU 4 (.pointer (some ⟨q,11,none⟩)) rfl hH ?_;try go_simp
    refine tS 5 (.int .i64 (z:Int)) rfl (Or.inl ⟨by rfl,by intro wz hSw;have hc:=hSw.1;go_simp⟩) hH ?_;try go_simp
    refine tU 6 (.pointer (some ⟨p,5,none⟩)) rfl hH ?_;try go_simp
    refine tS 7 (.int .u32 x) rfl (Or.inl ⟨by rfl,by intro wz hSw;have hc:=hSw.2;go_simp⟩) hH ?_;try go_simp
    refine tU 8 (.pointer (some ⟨b,0,none⟩)) rfl hH ?_;try go_simp
    refine tU 9 (.pointer (some ⟨b,141,none⟩)) rfl hH ?_;try go_simp
    refine tU 10 (.pointer (some ⟨b,141+z,none⟩)) rfl hH ?_;try go_simp
    refine tU 12 (.pointer (some ⟨b,0,none⟩)) rfl hH ?_;try go_simp
    refine tU 13 (.pointer (some ⟨b,237,none⟩)) rfl hH ?_;try go_simp
    refine zC 11 rfl (fun K hK=>?_)
    go_simp
    refine hK.out _ _ (⟨keepS hH.1 hqb,keepS hH.2 hpb⟩) (fun hN=>?_)
    clear hK K hH
    have hH:=hN
    clear hN
    try go_simp
    refine tU 14 (.pointer (some ⟨b,237+z,none⟩)) rfl hH ?_;try go_simp
    refine zL 15 rfl (fun K hK=>?_)
    go_simp
    refine hK.out _ _ ?_
    clear hK K
    try go_simp
    refine doneZ (by kernel_rfl) ?_ _
    clear hH
    go_wp2
    go_ret
    obtain⟨s1,t1⟩:=SV.out.setWd z hz1 x
    obtain⟨s2,t2⟩:=s1.setTh z hz1 true
    have e1:=HF2.out
    have e2:=HR2.out
    refine⟨by rw[e2];simp,by rw[e1];exact s2.dr.dr,((TV.out.trans t1).trans t2).dr.dr⟩
   ·have hne:(x==y)=false:=by simpa using hxy
    go_upto_region 3 with fail
    refine startZ (S:=fun w'=>w'.cell? ⟨q,14,none⟩=some (.bool true)∧w'.cell? ⟨q,11,none⟩=some (.int .i64 (z:Int))∧w'.cell? ⟨b,141+z,none⟩=some (.int .u32 x)∧w'.cell? ⟨p,5,none⟩=some (.int .u32 y)) [] (by kernel_rfl) (⟨c14,c11,cw,c5⟩) (fun hH=>?_)
    refine tU 0 (.pointer (some ⟨q,14,none⟩)) rfl hH ?_;try go_simp
    refine tS 1 (.bool true) rfl (Or.inl ⟨by rfl,by intro wz hSw;have hc:=hSw.1;go_simp⟩) hH ?_;try go_simp
    refine tU 2 (.bool false) rfl hH ?_;try go_simp
    refine tU 3 (.bool false) rfl hH ?_;try go_simp
    refine tU 4 (.pointer (some ⟨b,0,none⟩)) rfl hH ?_;try go_simp
    refine tU 5 (.pointer (some ⟨q,11,none⟩)) rfl hH ?_;try go_simp
    refine tS 6 (.int .i64 (z:Int)) rfl (Or.inl ⟨by rfl,by intro wz hSw;have hc:=hSw.2.1;go_simp⟩) hH ?_;try go_simp
    refine tU 7 (.pointer (some ⟨b,0,none⟩)) rfl hH ?_;try go_simp
    refine tU 8 (.pointer (some ⟨b,141,none⟩)) rfl hH ?_;try go_simp
    refine tU 9 (.pointer (some ⟨b,141+z,none⟩)) rfl hH ?_;try go_simp
    refine tS 10 (.int .u32 x) rfl (Or.inl ⟨by rfl,by intro wz hSw;have hc:=hSw.2.2.1;go_simp⟩) hH ?_;try go_simp
    refine tU 11 (.pointer (some ⟨p,5,none⟩)) rfl hH ?_;try go_simp
    refine tS 12 (.int .u32 y) rfl (Or.inl ⟨by rfl,by intro wz hSw;have hc:=hSw.2.2.2;go_simp⟩) hH ?_;try go_simp
    refine tU 13 (.bool false) rfl hH ?_;try go_simp
    refine tU 14 (.bool false) rfl hH ?_;try go_simp
    refine tU 15 (.bool false) rfl hH ?_;try go_simp
    refine doneZ (by kernel_rfl) ?_ _
    clear hH
    go_upto_region 4 with fail
    refine startZ (S:=fun w'=>w'.cell? ⟨q,11,none⟩=some (.int .i64 (z:Int))∧w'.cell? ⟨p,5,none⟩=some (.int .u32 y)) [15] (by kernel_rfl) (⟨c11,c5⟩) (fun hH=>?_)
    refine tU 0 (.pointer (some ⟨b,0,none⟩)) rfl hH ?_;try go_simp
    refine tU 1 (.pointer (some ⟨q,11,none⟩)) rfl hH ?_;try go_simp
    refine tS 2 (.int .i64 (z:Int)) rfl (Or.inl ⟨by rfl,by intro wz hSw;have hc:=hSw.1;go_simp⟩) hH ?_;try go_simp
    refine tU 3 (.pointer (some ⟨b,0,none⟩)) rfl hH ?_;try go_simp
    refine tU 4 (.pointer (some ⟨q,11,none⟩)) rfl hH ?_;try go_simp
    refine tS 5 (.int .i64 (z:Int)) rfl (Or.inl ⟨by rfl,by intro wz hSw;have hc:=hSw.1;go_simp⟩) hH ?_;try go_simp
    refine tU 6 (.pointer (some ⟨p,5,none⟩)) rfl hH ?_;try go_simp
    refine tS 7 (.int .u32 y) rfl (Or.inl ⟨by rfl,by intro wz hSw;have hc:=hSw.2;go_simp⟩) hH ?_;try go_simp
    refine tU 8 (.pointer (some ⟨b,0,none⟩)) rfl hH ?_;try go_simp
    refine tU 9 (.pointer (some ⟨b,141,none⟩)) rfl hH ?_;try go_simp
    refine tU 10 (.pointer (some ⟨b,141+z,none⟩)) rfl hH ?_;try go_simp
    refine tU 12 (.pointer (some ⟨b,0,none⟩)) rfl hH ?_;try go_simp
    refine tU 13 (.pointer (some ⟨b,237,none⟩)) rfl hH ?_;try go_simp
    refine zC 11 rfl (fun K hK=>?_)
    go_simp
    refine hK.out _ _ (⟨keepS hH.1 hqb,keepS hH.2 hpb⟩) (fun hN=>?_)
    clear hK K hH
    have hH:=hN
    clear hN
    try go_simp
    refine tU 14 (.pointer (some ⟨b,237+z,none⟩)) rfl hH ?_;try go_simp
    refine zL 15 rfl (fun K hK=>?_)
    go_simp
    refine hK.out _ _ ?_
    clear hK K
    try go_simp
    refine doneZ (by kernel_rfl) ?_ _
    clear hH
    go_wp2
    go_ret
    obtain⟨s1,t1⟩:=SV.out.setWd z hz1 y
    obtain⟨s2,t2⟩:=s1.setTh z hz1 true
    have e1:=HF2.out
    have e2:=HR2.out
    refine⟨by rw[e2];simp[hxy],by rw[e1];exact s2.dr.dr,((TV.out.trans t1).trans t2).dr.dr⟩
structure SetOk (s:Cr) (m:Nat→Int) (q:Int) (c:Cm):Prop where
 back:BackOk s m
 uq:Uq s.asked
 ask:∀a∈s.asked,a.Ok
 has:∃a∈s.asked,(a.st&&decide (a.seq=q))=true
 of:∀a∈s.asked,∃o∈s.under,a.seq=o.seq
 c:CmR c
theorem BackOk.asks {s:Cr} {m:Nat→Int} (h:BackOk s m) {k:List Ac} (hk:k.length≤10000000):BackOk {s with asked:=k} m:=
 ⟨⟨h.bk.olds,h.bk.reg,h.bk.rise,h.bk.slo⟩,h.dis,h.rd,h.low,h.high,h.lenU,hk,h.bck0,h.bck1⟩
theorem settle_none {s:Cr} {q:Int} {c:Cm} {k:List Ac} (hk:setA s.asked q (stA q c)=k) (h:lst k (stA q c) k.length=none):settle s q c={s with asked:=k}:=by
 unfold settle
 simp only[hk,h]
theorem settle_some {s:Cr} {q:Int} {c:Cm} {k:List Ac} {e:Int} (hk:setA s.asked q (stA q c)=k) (h:lst k (stA q c) k.length=some e):settle s q c=Co.back {s with asked:=k} e (pcOf s.under e):=by
 unfold settle
 simp only[hk,h]
theorem SetOk.early {s:Cr} {m:Nat→Int} {q:Int} {c:Cm} (h:SetOk s m q c) {e:Int} (he:lst (setA s.asked q (stA q c)) (stA q c) (setA s.asked q (stA q c)).length=some e):∃l1 o l2,s.under=l1++o::l2∧o.seq=e∧pcOf s.under e=o.pc:=by
 obtain⟨⟨a,ha,hae,_⟩,_⟩:=lst_some he
 have ho:∃o∈s.under,a.seq=o.seq:=by
  obtain⟨p,hp,rfl⟩:=List.mem_map.1 ha
  split
  ·rename_i hc
   obtain⟨o,ho,e⟩:=h.of p hp
   exact⟨o,ho,by show q=o.seq;rw[←e,hc.2]⟩
  ·exact h.of p hp
 obtain⟨o,ho,e2⟩:=ho
 obtain⟨l1,l2,hl⟩:=List.append_of_mem ho
 have hs:o.seq=e:=by rw[←e2,hae]
 refine⟨l1,o,l2,hl,hs,?_⟩
 have hr:=h.back.bk.rise
 rw[hl]at hr
 rw[hl,←hs]
 exact pcOf_at hr
theorem csettle_any {N:Nat} {w:World} {b:Nat} {s:Cr} {L:Sls} (S:St N w b s L) {m:Nat→Int} (q:Int) (c:Cm) (K:SetOk s m q c):
  Calls Tryz.prog 126 #[.pointer (some ⟨b,0,none⟩),.int .i64 q,cvC c] w fun e w'=>e=.returned (.tuple #[])∧∃L',St N w' b (settle s q c) L'∧To b w L w' L':=by
 have hmf:∀(fn:Fn) (first cap:Array Value) (w:World),(Instr.makeFunc fn first cap).run Tryz.prog w=.ok (.func fn first cap) w:=fun _ _ _ _=>rfl
 obtain⟨r,hr⟩:∃r,r=settle s q c:=⟨_,rfl⟩
 rw[←hr]
 have HR:Hid (r=settle s q c):=hr
 have HK:Hid (SetOk s m q c):=K
 obtain⟨mi,hmi,hml⟩:=firstA_at K.has
 have HM:Hid (FirstA (fun a=>a.st&&decide (a.seq=q)) s.asked mi):=hmi
 obtain⟨k,hk⟩:∃k,k=s.asked.set mi (stA q c):=⟨_,rfl⟩
 have HSA:Hid (setA s.asked q (stA q c)=k):=by show _=_;rw[hk];exact set_first K.uq hmi hml _
 obtain⟨hf1,hf2⟩:=sto1_first hmi hml (e:=stA q c) rfl rfl rfl
 rw[←hk]at hf1 hf2
 have HF:Hid (FirstA (sto1 q) k mi∧k[mi]?=some (stA q c)):=⟨hf1,hf2⟩
 have hkl:k.length=s.asked.length:=by rw[hk,List.length_set]
 have HKL:Hid (k.length=s.asked.length):=hkl
 have HKK:Hid (k=s.asked.set mi (stA q c)):=hk
 have hlA:=K.back.lenA
 clear hr hk hf1 hf2 hkl K hmi
 go_enter Tryz.func126,Tryz.ntmps126
 go_upto_region 1 with fail
 refine Wi.two_boxes (Φ:=fun W=>Code.wp _ _ _ _ W) ?_
 intro V h1 h2 hb hs
 have cz:V.cell? ⟨w.heap.size,0,none⟩=some (.int .i64 q):=by rw[cell_of_row _ _ _ _ _ _ h1];rfl
 have CV:Hid (Cb V (w.heap.size+1) c):=h2
 have SV:Hid (St N V b s L):=S.below hb
 have TV:Hid (To b w L V L):=to_below L hb
 have hzb:Hid (¬own b L w.heap.size):=fun h=>by have:=own_lt S h;omega
 have hpb:Hid (¬own b L (w.heap.size+1)):=fun h=>by have:=own_lt S h;omega
 clear h1 h2 hb hs S
 generalize w.heap.size+1=p at*
 generalize w.heap.size=z at*
 obtain⟨x0,hx0⟩:∃x0,s.asked[mi]?=some x0:=⟨_,List.getElem?_eq_getElem hml⟩
 obtain⟨ag,ao,ac,eav,hac,_,hag,hacs,_⟩:=SV.out.its.ia.at (by omega)
 obtain⟨n,hn⟩:∃n,n=s.asked.length:=⟨_,rfl⟩
 have HN:Hid (n=s.asked.length):=hn
 rw[←hn]at eav hac hml hlA HKL
 have HAV:Hid (L.a=.slice (some ⟨ag,ao,none⟩) n ac):=eav
 have k335:V.cell? ⟨b,335,none⟩=some (.slice (some ⟨ag,ao,none⟩) n ac):=(cell_at SV.out.row (by omega)).trans (congrArg some eav)
 have HU:Hid (LC V (some ⟨ag,ao,none⟩) n ac 7 (acs s.asked)):=by
  have:=SV.out.its.ia
  rw[eav,←hn]at this
  rw[acs_flat]
  exact this.lc
 have CI:Hid (∀W,Below V.heap.size V W→Calls Tryz.prog 81 #[.slice (some ⟨ag,ao,none⟩) n ac,.func (.func 159) #[] #[.pointer (some ⟨z,0,none⟩)]] W fun e w'=>e=.returned (.int .i64 (mi:Int))∧Below W.heap.size W w'):=fun W hW=>
  aIndexFunc_any 159 z (fun a=>a.st&&decide (a.seq=q)) eg_settleq (some ⟨ag,ao,none⟩) n ac (by omega) s.asked mi HM (mi:Int) (by show _=_;rw[if_pos hml]) W (HU.out.below (Nat.le_refl _) hW) (fun W' o hW'=>csettleq_any z q W' o (keepC hW' (keepC hW cz)))
 clear hacs hag hn eav
 go_wp2_with fail
 refine(CI.out _ (Below.refl _ _)).mono ?_
 rintro e V1 ⟨rfl,hk1⟩
 have S1:Hid (St N V1 b s L):=SV.out.below hk1
 have T1:Hid (To b w L V1 L):=TV.out.trans (to_below L hk1)
 have C1:Hid (Cb V1 p c):=CV.out.below hk1
 have cz1:V1.cell? ⟨z,0,none⟩=some (.int .i64 q):=keepC hk1 cz
 have k335b:V1.cell? ⟨b,335,none⟩=some (.slice (some ⟨ag,ao,none⟩) n ac):=keepC hk1 k335
 clear hk1 CI SV TV CV cz k335 HU
 obtain⟨g',o',cap',ev',hth,s2,t2⟩:=S1.out.dr.putA (y:=stA q c) hx0 (cel_one _)
 obtain⟨rfl,rfl⟩:ag=g'∧ao=o':=by rw[HAV.out]at ev';injection ev' with h1 _ _;injection h1 with h1;injection h1 with h1 h2;exact⟨h1,h2⟩
 rw[←HKK.out]at s2
 have HTH:Hid (V1.drew.there ag (ao+mi*7) 7):=hth
 have S2:Hid (St N (V1.drew.setCells ag (ao+mi*7) (cel (stA q c))) b {s with asked:=k} L):=s2
 have t2':Hid (To b V1.drew L (V1.drew.setCells ag (ao+mi*7) (cel (stA q c))) L):=t2
 have m0:0≤(mi:Int):=by omega
 have m1:(mi:Int)<(n:Int):=by omega
 have c6:V1.cell? ⟨p,6,none⟩=some (.int .u32 c.pl):=cb_row C1.out 6 rfl
 have c7:V1.cell? ⟨p,7,none⟩=some (.int .i64 c.many):=cb_row C1.out 7 rfl
 have c8:V1.cell? ⟨p,8,none⟩=some (.int .u32 c.data):=cb_row C1.out 8 rfl
 clear hth s2 t2 ev' hx0
 go_upto_region 2 with fail
 refine startZ (S:=fun w'=>w'.cell? ⟨b,335,none⟩=some (.slice (some ⟨ag,ao,none⟩) n ac)∧w'.cell? ⟨z,0,none⟩=some (.int .i64 q)∧w'.cell? ⟨p,6,none⟩=some (.int .u32 c.pl)∧w'.cell? ⟨p,7,none⟩=some (.int .i64 c.many)∧w'.cell? ⟨p,8,none⟩=some (.int .u32 c.data)) [14] (by kernel_rfl) (⟨k335b,cz1,c6,c7,c8⟩) (fun hH=>?_)
 refine tU 0 (.pointer (some ⟨b,0,none⟩)) rfl hH ?_;try go_simp
 refine tU 1 (.pointer (some ⟨b,0,none⟩)) rfl hH ?_;try go_simp
 refine tU 2 (.pointer (some ⟨b,335,none⟩)) rfl hH ?_;try go_simp
 refine tS 3 (.slice (some ⟨ag,ao,none⟩) n ac) rfl (Or.inl ⟨by rfl,by intro wz hSw;have hc:=hSw.1;go_simp⟩) hH ?_;try go_simp
 refine tU 4 (.int .i64 (mi:Int)) rfl hH ?_;try go_simp
 refine tS 5 (.int .i64 q) rfl (Or.inl ⟨by rfl,by intro wz hSw;have hc:=hSw.2.1;go_simp⟩) hH ?_;try go_simp
 refine tU 6 (.pointer (some ⟨p,6,none⟩)) rfl hH ?_;try go_simp
 refine tS 7 (.int .u32 c.pl) rfl (Or.inl ⟨by rfl,by intro wz hSw;have hc:=hSw.2.2.1;go_simp⟩) hH ?_;try go_simp
 refine tU 8 (.pointer (some ⟨p,7,none⟩)) rfl hH ?_;try go_simp
 refine tS 9 (.int .i64 c.many) rfl (Or.inl ⟨by rfl,by intro wz hSw;have hc:=hSw.2.2.2.1;go_simp⟩) hH ?_;try go_simp
 refine tU 10 (.pointer (some ⟨p,8,none⟩)) rfl hH ?_;try go_simp
 refine tS 11 (.int .u32 c.data) rfl (Or.inl ⟨by rfl,by intro wz hSw;have hc:=hSw.2.2.2.2;go_simp⟩) hH ?_;try go_simp
 refine tU 12 (.agg #[.int .i64 q,.bool true,.bool true,.int .u32 c.pl,.int .i64 c.many,.int .u32 c.data,.bool false]) rfl hH ?_;try go_simp
 refine tU 13 (.pointer (some ⟨ag,ao+mi*7,none⟩)) rfl hH ?_;try go_simp
 refine zL 14 rfl (fun K hK=>?_)
 rw[if_pos (by rfl)]
 refine wp_store_mid 135 _ _ rfl ag (ao+mi*7) ((cel (stA q c)).toArray) rfl rfl (HTH.out) (cel_info _) (cel_ones _) ?_
 refine hK.out _ _ ?_
 clear hK K
 try go_simp
 refine doneZ (by kernel_rfl) ?_ _
 have T2:Hid (To b w L (V1.drew.setCells ag (ao+mi*7) (cel (stA q c))) L):=T1.out.dr.trans t2'.out
 have cz2:(V1.drew.setCells ag (ao+mi*7) (cel (stA q c))).cell? ⟨z,0,none⟩=some (.int .i64 q):=cell_to (w:=V1.drew) cz1 t2'.out hzb.out
 have C2:Hid (Cb (V1.drew.setCells ag (ao+mi*7) (cel (stA q c))) p c):=Cb.to (w:=V1.drew) C1.out t2'.out hpb.out
 clear hH HTH t2' S1 T1 C1 cz1 k335b c6 c7 c8 m0 m1
 generalize V1.drew.setCells ag (ao+mi*7) (cel (stA q c))=V2 at*
 have k335:V2.cell? ⟨b,335,none⟩=some (.slice (some ⟨ag,ao,none⟩) n ac):=(cell_at S2.out.row (by omega)).trans (congrArg some HAV.out)
 obtain⟨y0,f0,hT⟩:∃y0 f0,Od.Told (lst k (stA q c) n) y0 f0:=⟨_,_,rfl,rfl⟩
 have CW:Hid (∀W,Below V2.heap.size V2 W→Calls Tryz.prog 160 #[.slice (some ⟨ag,ao,none⟩) n ac,.int .i64 q] W fun e w'=>e=.returned (.tuple #[.int .i64 y0,.bool f0])∧Below W.heap.size W w'):=fun W hW=>by
  refine uWrong_yes (some ⟨ag,ao,none⟩) n ac q k (fun a ha=>?_) mi HF.out.1 hml (stA q c) HF.out.2 y0 f0 hT (by omega) W ?_
  ·rw[←HSA.out]at ha
   obtain⟨p',hp',rfl⟩:=List.mem_map.1 ha
   split
   ·exact ok_stA HK.out.c
   ·exact HK.out.ask p' hp'
  ·have:=S2.out.its.ia
   rw[HAV.out]at this
   have h2:(({s with asked:=k}:Cr).asked).length=n:=HKL.out
   rw[h2]at this
   rw[acs_flat]
   exact(this.below hW).lc
 have HT:Hid (Od.Told (lst k (stA q c) n) y0 f0):=hT
 clear hT
 go_upto_region 3 with fail
 refine startZ (S:=fun w'=>w'.cell? ⟨b,335,none⟩=some (.slice (some ⟨ag,ao,none⟩) n ac)∧w'.cell? ⟨z,0,none⟩=some (.int .i64 q)) [] (by kernel_rfl) (⟨k335,cz2⟩) (fun hH=>?_)
 refine tU 0 (.pointer (some ⟨b,0,none⟩)) rfl hH ?_;try go_simp
 refine tU 1 (.pointer (some ⟨b,0,none⟩)) rfl hH ?_;try go_simp
 refine tU 2 (.pointer (some ⟨b,335,none⟩)) rfl hH ?_;try go_simp
 refine tS 3 (.slice (some ⟨ag,ao,none⟩) n ac) rfl (Or.inl ⟨by rfl,by intro wz hSw;have hc:=hSw.1;go_simp⟩) hH ?_;try go_simp
 refine tS 4 (.int .i64 q) rfl (Or.inl ⟨by rfl,by intro wz hSw;have hc:=hSw.2;go_simp⟩) hH ?_;try go_simp
 refine zC 5 rfl (fun K hK=>?_)
 go_simp
 refine(CW.out _ ((Below.refl _ _).drew)).mono ?_
 rintro e V3 ⟨rfl,hk3⟩
 have HK3:Hid (Below V2.heap.size V2 V3):=below_first hk3 (Nat.le_refl _)
 go_wp2_with fail
 refine hK.out _ _ (⟨keepC hk3 (hH.1),keepC hk3 (hH.2)⟩) (fun hN=>?_)
 clear hK K hH
 have hH:=hN
 clear hN
 try go_simp
 refine tU 6 (.tuple #[.int .i64 y0,.bool f0]) rfl hH ?_;try go_simp
 refine tU 7 (.int .i64 y0) rfl hH ?_;try go_simp
 refine tU 8 (.bool f0) rfl hH ?_;try go_simp
 refine tU 9 (.int .i64 y0) rfl hH ?_;try go_simp
 refine tU 10 (.bool f0) rfl hH ?_;try go_simp
 refine doneZ (by kernel_rfl) ?_ _
 have S3:Hid (St N V3 b {s with asked:=k} L):=S2.out.below HK3.out
 have T3:Hid (To b w L V3 L):=T2.out.trans (to_below L HK3.out)
 clear hH CW S2 T2 C2 cz2 k335 HK3
 cases hls:lst k (stA q c) n with
 |none=>
  rw[hls]at HT
  obtain⟨rfl,rfl⟩:=HT.out.none'
  have hr:r={s with asked:=k}:=by rw[HR.out];exact settle_none HSA.out (by rw[HKL.out];exact hls)
  subst hr
  clear hls HT HR
  go_wp2_with fail
  refine bodyPost_end (results_none rfl _ _ _) rfl ⟨rfl,L,S3.out,T3.out⟩
 |some e=>
  rw[hls]at HT
  obtain⟨hy,rfl⟩:=HT.out.some'
  have hls2:lst (setA s.asked q (stA q c)) (stA q c) (setA s.asked q (stA q c)).length=some e:=by rw[HSA.out,HKL.out];exact hls
  obtain⟨l1,o,l2,hu,hos,hpc⟩:=HK.out.early hls2
  have hr:r=Co.back {s with asked:=k} y0 o.pc:=by rw[HR.out,settle_some HSA.out (by rw[HKL.out];exact hls),hpc,hy]
  have HR2:Hid (r=Co.back {s with asked:=k} y0 o.pc):=hr
  have HOS:Hid (o.seq=y0):=hos.trans hy.symm
  have HU:Hid (s.under=l1++o::l2):=hu
  obtain⟨j,hj⟩:∃j,j=l1.length:=⟨_,rfl⟩
  have hjl:j<s.under.length:=by rw[hu,hj];simp
  have CF:Hid (∀W,Below V3.heap.size V3 W→Calls Tryz.prog 58 #[.pointer (some ⟨b,0,none⟩),.int .i64 y0] W fun e w'=>e=.returned (.int .i64 (j:Int))∧Below W.heap.size W w'):=fun W hW=>by
   have:=cfind_any (S3.out.below hW) y0 j (by show FirstD _ s.under j;rw[←HOS.out,hj];exact find_first hu HK.out.back.bk.rise) (by show s.under.length≤_;have:=HK.out.back.lenU;omega)
   rw[if_pos (show j<({s with asked:=k}:Cr).under.length from hjl)]at this
   exact this
  have CB:Hid (∀W,Below V3.heap.size V3 W→Calls Tryz.prog 128 #[.pointer (some ⟨b,0,none⟩),.int .i64 y0,.int .u32 o.pc] W fun e w'=>e=.returned (.tuple #[])∧∃L',St N w' b r L'∧To b W L w' L'):=fun W hW=>by
   rw[hr]
   exact cback_any (S3.out.below hW) (HK.out.back.asks (by rw[HKL.out];omega)) y0 o.pc
  obtain⟨ug,uo,uc,euv,huc,_,hug,hucs,_⟩:=S3.out.its.iu.at (show 0<s.under.length by omega)
  obtain⟨un,hun⟩:∃un,un=s.under.length:=⟨_,rfl⟩
  have k334:V3.cell? ⟨b,334,none⟩=some (.slice (some ⟨ug,uo,none⟩) un uc):=(cell_at S3.out.row (by omega)).trans (congrArg some (by rw[hun];exact euv))
  have cpc:V3.cell? ⟨ug,uo+j*28+1,none⟩=some (.int .u32 o.pc):=by
   rw[Nat.add_assoc]
   exact hucs _ _ (flat_at dgl_len (l:=s.under) (k:=j) (x:=o) (by rw[hu,hj];simp) rfl)
  have j0:0≤(j:Int):=by omega
  have j1:(j:Int)<(un:Int):=by omega
  clear hls HT HR hls2 hu hos hpc hr hj hjl euv hucs hug hun hy huc
  go_upto_region 5 with fail
  refine startZ (S:=fun w'=>w'.cell? ⟨b,334,none⟩=some (.slice (some ⟨ug,uo,none⟩) un uc)∧w'.cell? ⟨ug,uo+j*28+1,none⟩=some (.int .u32 o.pc)) [12] (by kernel_rfl) (⟨k334,cpc⟩) (fun hH=>?_)
  refine tU 0 (.pointer (some ⟨b,0,none⟩)) rfl hH ?_;try go_simp
  refine tU 1 (.int .i64 y0) rfl hH ?_;try go_simp
  refine tU 2 (.pointer (some ⟨b,0,none⟩)) rfl hH ?_;try go_simp
  refine tU 3 (.pointer (some ⟨b,0,none⟩)) rfl hH ?_;try go_simp
  refine tU 4 (.pointer (some ⟨b,334,none⟩)) rfl hH ?_;try go_simp
  refine tU 6 (.pointer (some ⟨b,0,none⟩)) rfl hH ?_;try go_simp
  refine tU 7 (.int .i64 y0) rfl hH ?_;try go_simp
  refine rZ [5,8] ?_
  refine(AllReadyZ.cons rfl (fun K hK=>?_) (AllReadyZ.cons rfl (fun K hK=>?_) AllReadyZ.nil))
  ·have hc:=hH.1
   go_simp
   clear hc
   refine hK.out _ _ (hH) (fun hN=>?_)
   clear hK K hH
   have hH:=hN
   clear hN
   try go_simp
   refine zC 8 rfl (fun K hK=>?_)
   go_simp
   refine(CF.out _ ((Below.refl _ _).drew)).mono ?_
   rintro e V4 ⟨rfl,hk4⟩
   have HK4:Hid (Below V3.heap.size V3 V4):=below_first hk4 (Nat.le_refl _)
   go_wp2_with fail
   refine hK.out _ _ (⟨keepC hk4 (hH.1),keepC hk4 (hH.2)⟩) (fun hN=>?_)
   clear hK K hH
   have hH:=hN
   clear hN
   try go_simp
   refine tU 9 (.pointer (some ⟨ug,uo+j*28,none⟩)) rfl hH ?_;try go_simp
   refine tU 10 (.pointer (some ⟨ug,uo+j*28+1,none⟩)) rfl hH ?_;try go_simp
   refine tS 11 (.int .u32 o.pc) rfl (Or.inl ⟨by rfl,by intro wz hSw;have hc:=hSw.2;go_simp⟩) hH ?_;try go_simp
   refine zL 12 rfl (fun K hK=>?_)
   go_simp
   refine(CB.out _ HK4.out).mono ?_
   rintro e V5 ⟨rfl,L5,u1,u2⟩
   have S5:Hid (St N V5 b r L5):=u1
   have T5:Hid (To b w L V5 L5):=(T3.out.trans (to_below L HK4.out)).trans u2
   clear u1 u2
   go_wp2_with fail
   refine hK.out _ _ ?_
   clear hK K
   try go_simp
   refine doneZ (by kernel_rfl) ?_ _
   clear hH
   go_wp2_with fail
   refine bodyPost_end (results_none rfl _ _ _) rfl ⟨rfl,L5,S5.out,T5.out⟩
  ·go_simp
   refine(CF.out _ ((Below.refl _ _).drew)).mono ?_
   rintro e V4 ⟨rfl,hk4⟩
   have HK4:Hid (Below V3.heap.size V3 V4):=below_first hk4 (Nat.le_refl _)
   go_wp2_with fail
   refine hK.out _ _ (⟨keepC hk4 (hH.1),keepC hk4 (hH.2)⟩) (fun hN=>?_)
   clear hK K hH
   have hH:=hN
   clear hN
   try go_simp
   refine zC 5 rfl (fun K hK=>?_)
   have hc:=hH.1
   go_simp
   clear hc
   refine hK.out _ _ (hH) (fun hN=>?_)
   clear hK K hH
   have hH:=hN
   clear hN
   try go_simp
   refine tU 9 (.pointer (some ⟨ug,uo+j*28,none⟩)) rfl hH ?_;try go_simp
   refine tU 10 (.pointer (some ⟨ug,uo+j*28+1,none⟩)) rfl hH ?_;try go_simp
   refine tS 11 (.int .u32 o.pc) rfl (Or.inl ⟨by rfl,by intro wz hSw;have hc:=hSw.2;go_simp⟩) hH ?_;try go_simp
   refine zL 12 rfl (fun K hK=>?_)
   go_simp
   refine(CB.out _ HK4.out).mono ?_
   rintro e V5 ⟨rfl,L5,u1,u2⟩
   have S5:Hid (St N V5 b r L5):=u1
   have T5:Hid (To b w L V5 L5):=(T3.out.trans (to_below L HK4.out)).trans u2
   clear u1 u2
   go_wp2_with fail
   refine hK.out _ _ ?_
   clear hK K
   try go_simp
   refine doneZ (by kernel_rfl) ?_ _
   clear hH
   go_wp2_with fail
   refine bodyPost_end (results_none rfl _ _ _) rfl ⟨rfl,L5,S5.out,T5.out⟩
end Go.Proofs.YtpiohehijkpghacGreatDoor.Co
