/- A core that fills a register: the program. -/
import Derived.Test.YtpiohehijkpghabGreatDoorG37
import Derived.Test.YtpiohehijkpghabGreatDoorG01
set_option maxRecDepth 20000
set_option maxHeartbeats 1000000
namespace Go.Proofs.YtpiohehijkpghabGreatDoor.Co
open Go.RowKit
open Hy
open Wi Od Re.Hy
open Gu.Hy (Tb tcs)
set_option linter.unusedVariables false
set_option linter.unusedSimpArgs false
def Cb (w:World) (p:Nat) (c:Cm):Prop:=w.heap[p]?=some (.cells (cC c) 64 (0,0))
theorem Cb.below {w w':World} {p:Nat} {c:Cm} (h:Cb w p c) (hb:Below w.heap.size w w'):Cb w' p c:=(hb.block p (Array.getElem?_eq_some_iff.1 h).1).trans h
theorem Cb.lt {w:World} {p:Nat} {c:Cm} (h:Cb w p c):p<w.heap.size:=(Array.getElem?_eq_some_iff.1 h).1
theorem Cb.to {b:Nat} {w w':World} {L L':Sls} {p:Nat} {c:Cm} (h:Cb w p c) (hT:To b w L w' L') (hp:¬own b L p):Cb w' p c:=(hT.block p h.lt hp).trans h
theorem Cb.not {b:Nat} {w w':World} {L L':Sls} {p:Nat} {c:Cm} (h:Cb w p c) (hT:To b w L w' L') (hp:¬own b L p):¬own b L' p:=not_own hT.fresh hp h.lt
theorem cb_row {w:World} {p:Nat} {c:Cm} (h:Cb w p c) (j:Nat) {v:Value} (hj:(cC c)[j]?=some v):w.cell? ⟨p,j,none⟩=some v:=by
 rw[cell_of_row _ _ _ _ _ _ h]
 exact hj
theorem cb_rng {w:World} {p:Nat} {c:Cm} (h:Cb w p c):w.rangeAt p 0 (cC c).toList:=fun j v hj=>by
 rw[cell_of_row _ _ _ _ _ _ h,Nat.zero_add,←Array.getElem?_toList]
 exact hj
theorem cC_size (c:Cm):(Tryz.prog.info? 64).map (·.size)=some (cC c).toList.length:=size_commit
theorem cfill_any {N:Nat} {w:World} {b:Nat} {s:Cr} {L:Sls} (S:St N w b s L) (o:Dg) (c:Cm) (hto:c.rd≠0→0≤o.to∧o.to<96):
  Calls Tryz.prog 103 #[.pointer (some ⟨b,0,none⟩),dgv o,cvC c] w fun e w'=>e=.returned (.bool (rightC s o c))∧St N w' b (fillC s o c) L∧To b w L w' L:=by
 obtain⟨r,hr⟩:∃r,r=rightC s o c:=⟨_,rfl⟩
 obtain⟨f,hf⟩:∃f,f=fillC s o c:=⟨_,rfl⟩
 rw[←hr,←hf]
 have HR:Hid (r=rightC s o c):=hr
 have HF:Hid (f=fillC s o c):=hf
 clear hr hf
 go_enter Tryz.func103,Tryz.ntmps103
 go_upto_region 1 with fail
 refine Wi.two_boxes (Φ:=fun W=>Code.wp _ _ _ _ W) ?_
 intro V h1 h2 hb hs
 have BV:Hid (Bx V w.heap.size o):=h1
 have CV:Hid (Cb V (w.heap.size+1) c):=h2
 have SV:Hid (St N V b s L):=S.below hb
 have TV:Hid (To b w L V L):=to_below L hb
 have hqb:b≠w.heap.size:=by have:=S.lt;omega
 have hpb:b≠w.heap.size+1:=by have:=S.lt;omega
 clear h1 h2 hb hs S
 generalize w.heap.size+1=p at*
 generalize w.heap.size=q at*
 obtain⟨k,hk⟩:∃k,k=c.rd:=⟨_,rfl⟩
 have c4:V.cell? ⟨p,4,none⟩=some (.int .i64 (k:Int)):=cb_row CV.out 4 (by rw[hk];rfl)
 rw[←hk]at hto
 have HKK:Hid (k=c.rd):=hk
 clear hk
 by_cases h0:k=0
 ·have hr:r=true:=by rw[HR.out];unfold rightC;rw[←HKK.out,h0];rfl
  have hf:f=s:=by rw[HF.out];unfold fillC;rw[←HKK.out,if_pos h0]
  subst hr hf
  have c4':V.cell? ⟨p,4,none⟩=some (.int .i64 0):=by rw[c4,h0];rfl
  clear c4 h0 HR HF hto
  go_wp2
  go_ret
  exact⟨rfl,SV.out,TV.out⟩
 ·have hb0:((k:Int)==0)=false:=by simp[h0]
  obtain⟨z,hz⟩:∃z:Nat,o.to=(z:Int):=Int.eq_ofNat_of_zero_le (hto h0).1
  have hz1:z<96:=by have:=(hto h0).2;omega
  have z0:0≤(z:Int):=by omega
  have z1:(z:Int)<96:=by omega
  have hf:f={s with wd:=upI s.wd (z:Int) c.val,th:=upB s.th (z:Int) true}:=by rw[HF.out];unfold fillC;rw[←HKK.out,if_neg h0,hz]
  have HR2:Hid (r=(!o.gs||decide (s.wd (z:Int)=c.val))):=by
   show _=_
   rw[HR.out]
   unfold rightC
   rw[←HKK.out,decide_eq_false h0,hz]
   rfl
  have HF2:Hid (f={s with wd:=upI s.wd (z:Int) c.val,th:=upB s.th (z:Int) true}):=hf
  have c11:V.cell? ⟨q,11,none⟩=some (.int .i64 (z:Int)):=bx_row BV.out 11 (by rw[←hz];rfl)
  have c5:V.cell? ⟨p,5,none⟩=some (.int .u32 c.val):=cb_row CV.out 5 rfl
  have c14:V.cell? ⟨q,14,none⟩=some (.bool o.gs):=bx_row BV.out 14 rfl
  have cw:=SV.out.wrd z hz1
  have ct:=SV.out.thr z hz1
  have fw:=SV.out.frozen (141+z)
  have ft:=SV.out.frozen (237+z)
  obtain⟨x,hx⟩:∃x,x=s.wd (z:Int):=⟨_,rfl⟩
  obtain⟨y,hy⟩:∃y,y=c.val:=⟨_,rfl⟩
  rw[←hx]at cw HR2
  rw[←hy]at HF2 c5 HR2
  obtain⟨g,hg⟩:∃g,g=o.gs:=⟨_,rfl⟩
  rw[←hg]at c14 HR2
  clear hf HR HF hto hz hx hy hg h0 HKK
  cases g with
  |false=>
   go_upto_region 3 with fail
   refine startZ (S:=fun w'=>w'.cell? ⟨q,14,none⟩=some (.bool false)) [] (by kernel_rfl) (c14) (fun hH=>?_)
   refine tU 0 (.pointer (some ⟨q,14,none⟩)) rfl hH ?_;try go_simp
   refine tS 1 (.bool false) rfl (Or.inl ⟨by rfl,by intro wz hSw;have hc:=hSw;go_simp⟩) hH ?_;try go_simp
   refine tU 2 (.bool true) rfl hH ?_;try go_simp
   refine tU 3 (.bool true) rfl hH ?_;try go_simp
   refine tX 4 undef rfl (Or.inr ⟨by rfl,rfl⟩) hH ?_;try go_simp
   refine tX 5 undef rfl (Or.inr ⟨by rfl,rfl⟩) hH ?_;try go_simp
   refine tX 6 undef rfl (Or.inr ⟨by rfl,rfl⟩) hH ?_;try go_simp
   refine tX 7 undef rfl (Or.inr ⟨by rfl,rfl⟩) hH ?_;try go_simp
   refine tX 8 undef rfl (Or.inr ⟨by rfl,rfl⟩) hH ?_;try go_simp
   refine tX 9 undef rfl (Or.inr ⟨by rfl,rfl⟩) hH ?_;try go_simp
   refine tX 10 undef rfl (Or.inr ⟨by rfl,rfl⟩) hH ?_;try go_simp
   refine tX 11 undef rfl (Or.inr ⟨by rfl,rfl⟩) hH ?_;try go_simp
   refine tX 12 undef rfl (Or.inr ⟨by rfl,rfl⟩) hH ?_;try go_simp
   refine tX 13 undef rfl (Or.inr ⟨by rfl,rfl⟩) hH ?_;try go_simp
   refine tU 14 (.bool true) rfl hH ?_;try go_simp
   refine tU 15 (.bool true) rfl hH ?_;try go_simp
   refine doneZ (by kernel_rfl) ?_ _
   clear hH
   go_upto_region 4 with fail
   refine startZ (S:=fun w'=>w'.cell? ⟨q,11,none⟩=some (.int .i64 (z:Int))∧w'.cell? ⟨p,5,none⟩=some (.int .u32 y)) [15] (by kernel_rfl) (⟨c11,c5⟩) (fun hH=>?_)
   refine tU 0 (.pointer (some ⟨b,0,none⟩)) rfl hH ?_;try go_simp
   refine tU 1 (.pointer (some ⟨q,11,none⟩)) rfl hH ?_;try go_simp
   refine tS 2 (.int .i64 (z:Int)) rfl (Or.inl ⟨by rfl,by intro wz hSw;have hc:=hSw.1;go_simp⟩) hH ?_;try go_simp
   refine tU 3 (.pointer (some ⟨b,0,none⟩)) rfl hH ?_;try go_simp
   refine tU 4 (.pointer (some ⟨q,11,none⟩)) rfl hH ?_;try go_simp
   refine tS 5 (.int .i64 (z:Int)) rfl (Or.inl ⟨by rfl,by intro wz hSw;have hc:=hSw.1;go_simp⟩) hH ?_;try go_simp
   refine tU 6 (.pointer (some ⟨p,5,none⟩)) rfl hH ?_;try go_simp
   refine tS 7 (.int .u32 y) rfl (Or.inl ⟨by rfl,by intro wz hSw;have hc:=hSw.2;go_simp⟩) hH ?_;try go_simp
   refine tU 8 (.pointer (some ⟨b,0,none⟩)) rfl hH ?_;try go_simp
   refine tU 9 (.pointer (some ⟨b,141,none⟩)) rfl hH ?_;try go_simp
   refine tU 10 (.pointer (some ⟨b,141+z,none⟩)) rfl hH ?_;try go_simp
   refine tU 12 (.pointer (some ⟨b,0,none⟩)) rfl hH ?_;try go_simp
   refine tU 13 (.pointer (some ⟨b,237,none⟩)) rfl hH ?_;try go_simp
   refine zC 11 rfl (fun K hK=>?_)
   go_simp
   refine hK.out _ _ (⟨keepS hH.1 hqb,keepS hH.2 hpb⟩) (fun hN=>?_)
   clear hK K hH
   have hH:=hN
   clear hN
   try go_simp
   refine tU 14 (.pointer (some ⟨b,237+z,none⟩)) rfl hH ?_;try go_simp
   refine zL 15 rfl (fun K hK=>?_)
   go_simp
   refine hK.out _ _ ?_
   clear hK K
   try go_simp
   refine doneZ (by kernel_rfl) ?_ _
   clear hH
   go_wp2
   go_ret
   obtain⟨s1,t1⟩:=SV.out.setWd z hz1 y
   obtain⟨s2,t2⟩:=s1.setTh z hz1 true
   have e1:=HF2.out
   have e2:=HR2.out
   refine⟨by rw[e2];rfl,by rw[e1];exact s2.dr.dr,((TV.out.trans t1).trans t2).dr.dr⟩
  |true=>
   by_cases hxy:x=y
   ·subst hxy
    go_upto_region 3 with fail
    refine startZ (S:=fun w'=>w'.cell? ⟨q,14,none⟩=some (.bool true)∧w'.cell? ⟨q,11,none⟩=some (.int .i64 (z:Int))∧w'.cell? ⟨b,141+z,none⟩=some (.int .u32 x)∧w'.cell? ⟨p,5,none⟩=some (.int .u32 x)) [] (by kernel_rfl) (⟨c14,c11,cw,c5⟩) (fun hH=>?_)
    refine tU 0 (.pointer (some ⟨q,14,none⟩)) rfl hH ?_;try go_simp
    refine tS 1 (.bool true) rfl (Or.inl ⟨by rfl,by intro wz hSw;have hc:=hSw.1;go_simp⟩) hH ?_;try go_simp
    refine tU 2 (.bool false) rfl hH ?_;try go_simp
    refine tU 3 (.bool false) rfl hH ?_;try go_simp
    refine tU 4 (.pointer (some ⟨b,0,none⟩)) rfl hH ?_;try go_simp
    refine tU 5 (.pointer (some ⟨q,11,none⟩)) rfl hH ?_;try go_simp
    refine tS 6 (.int .i64 (z:Int)) rfl (Or.inl ⟨by rfl,by intro wz hSw;have hc:=hSw.2.1;go_simp⟩) hH ?_;try go_simp
    refine tU 7 (.pointer (some ⟨b,0,none⟩)) rfl hH ?_;try go_simp
    refine tU 8 (.pointer (some ⟨b,141,none⟩)) rfl hH ?_;try go_simp
    refine tU 9 (.pointer (some ⟨b,141+z,none⟩)) rfl hH ?_;try go_simp
    refine tS 10 (.int .u32 x) rfl (Or.inl ⟨by rfl,by intro wz hSw;have hc:=hSw.2.2.1;go_simp⟩) hH ?_;try go_simp
    refine tU 11 (.pointer (some ⟨p,5,none⟩)) rfl hH ?_;try go_simp
    refine tS 12 (.int .u32 x) rfl (Or.inl ⟨by rfl,by intro wz hSw;have hc:=hSw.2.2.2;go_simp⟩) hH ?_;try go_simp
    refine tU 13 (.bool true) rfl hH ?_;try go_simp
    refine tU 14 (.bool true) rfl hH ?_;try go_simp
    refine tU 15 (.bool true) rfl hH ?_;try go_simp
    refine doneZ (by kernel_rfl) ?_ _
    clear hH
    go_upto_region 4 with fail
    refine startZ (S:=fun w'=>w'.cell? ⟨q,11,none⟩=some (.int .i64 (z:Int))∧w'.cell? ⟨p,5,none⟩=some (.int .u32 x)) [15] (by kernel_rfl) (⟨c11,c5⟩) (fun hH=>?_)
    refine tU 0 (.pointer (some ⟨b,0,none⟩)) rfl hH ?_;try go_simp
    refine tU 1 (.pointer (some ⟨q,11,none⟩)) rfl hH ?_;try go_simp
    refine tS 2 (.int .i64 (z:Int)) rfl (Or.inl ⟨by rfl,by intro wz hSw;have hc:=hSw.1;go_simp⟩) hH ?_;try go_simp
    refine tU 3 (.pointer (some ⟨b,0,none⟩)) rfl hH ?_;try go_simp
    refine tU 4 (.pointer (some ⟨q,11,none⟩)) rfl hH ?_;try go_simp
    refine tS 5 (.int .i64 (z:Int)) rfl (Or.inl ⟨by rfl,by intro wz hSw;have hc:=hSw.1;go_simp⟩) hH ?_;try go_simp
    refine tU 6 (.pointer (some ⟨p,5,none⟩)) rfl hH ?_;try go_simp
    refine tS 7 (.int .u32 x) rfl (Or.inl ⟨by rfl,by intro wz hSw;have hc:=hSw.2;go_simp⟩) hH ?_;try go_simp
    refine tU 8 (.pointer (some ⟨b,0,none⟩)) rfl hH ?_;try go_simp
    refine tU 9 (.pointer (some ⟨b,141,none⟩)) rfl hH ?_;try go_simp
    refine tU 10 (.pointer (some ⟨b,141+z,none⟩)) rfl hH ?_;try go_simp
    refine tU 12 (.pointer (some ⟨b,0,none⟩)) rfl hH ?_;try go_simp
    refine tU 13 (.pointer (some ⟨b,237,none⟩)) rfl hH ?_;try go_simp
    refine zC 11 rfl (fun K hK=>?_)
    go_simp
    refine hK.out _ _ (⟨keepS hH.1 hqb,keepS hH.2 hpb⟩) (fun hN=>?_)
    clear hK K hH
    have hH:=hN
    clear hN
    try go_simp
    refine tU 14 (.pointer (some ⟨b,237+z,none⟩)) rfl hH ?_;try go_simp
    refine zL 15 rfl (fun K hK=>?_)
    go_simp
    refine hK.out _ _ ?_
    clear hK K
    try go_simp
    refine doneZ (by kernel_rfl) ?_ _
    clear hH
    go_wp2
    go_ret
    obtain⟨s1,t1⟩:=SV.out.setWd z hz1 x
    obtain⟨s2,t2⟩:=s1.setTh z hz1 true
    have e1:=HF2.out
    have e2:=HR2.out
    refine⟨by rw[e2];simp,by rw[e1];exact s2.dr.dr,((TV.out.trans t1).trans t2).dr.dr⟩
   ·have hne:(x==y)=false:=by simpa using hxy
    go_upto_region 3 with fail
    refine startZ (S:=fun w'=>w'.cell? ⟨q,14,none⟩=some (.bool true)∧w'.cell? ⟨q,11,none⟩=some (.int .i64 (z:Int))∧w'.cell? ⟨b,141+z,none⟩=some (.int .u32 x)∧w'.cell? ⟨p,5,none⟩=some (.int .u32 y)) [] (by kernel_rfl) (⟨c14,c11,cw,c5⟩) (fun hH=>?_)
    refine tU 0 (.pointer (some ⟨q,14,none⟩)) rfl hH ?_;try go_simp
    refine tS 1 (.bool true) rfl (Or.inl ⟨by rfl,by intro wz hSw;have hc:=hSw.1;go_simp⟩) hH ?_;try go_simp
    refine tU 2 (.bool false) rfl hH ?_;try go_simp
    refine tU 3 (.bool false) rfl hH ?_;try go_simp
    refine tU 4 (.pointer (some ⟨b,0,none⟩)) rfl hH ?_;try go_simp
    refine tU 5 (.pointer (some ⟨q,11,none⟩)) rfl hH ?_;try go_simp
    refine tS 6 (.int .i64 (z:Int)) rfl (Or.inl ⟨by rfl,by intro wz hSw;have hc:=hSw.2.1;go_simp⟩) hH ?_;try go_simp
    refine tU 7 (.pointer (some ⟨b,0,none⟩)) rfl hH ?_;try go_simp
    refine tU 8 (.pointer (some ⟨b,141,none⟩)) rfl hH ?_;try go_simp
    refine tU 9 (.pointer (some ⟨b,141+z,none⟩)) rfl hH ?_;try go_simp
    refine tS 10 (.int .u32 x) rfl (Or.inl ⟨by rfl,by intro wz hSw;have hc:=hSw.2.2.1;go_simp⟩) hH ?_;try go_simp
    refine tU 11 (.pointer (some ⟨p,5,none⟩)) rfl hH ?_;try go_simp
    refine tS 12 (.int .u32 y) rfl (Or.inl ⟨by rfl,by intro wz hSw;have hc:=hSw.2.2.2;go_simp⟩) hH ?_;try go_simp
    refine tU 13 (.bool false) rfl hH ?_;try go_simp
    refine tU 14 (.bool false) rfl hH ?_;try go_simp
    refine tU 15 (.bool false) rfl hH ?_;try go_simp
    refine doneZ (by kernel_rfl) ?_ _
    clear hH
    go_upto_region 4 with fail
    refine startZ (S:=fun w'=>w'.cell? ⟨q,11,none⟩=some (.int .i64 (z:Int))∧w'.cell? ⟨p,5,none⟩=some (.int .u32 y)) [15] (by kernel_rfl) (⟨c11,c5⟩) (fun hH=>?_)
    refine tU 0 (.pointer (some ⟨b,0,none⟩)) rfl hH ?_;try go_simp
    refine tU 1 (.pointer (some ⟨q,11,none⟩)) rfl hH ?_;try go_simp
    refine tS 2 (.int .i64 (z:Int)) rfl (Or.inl ⟨by rfl,by intro wz hSw;have hc:=hSw.1;go_simp⟩) hH ?_;try go_simp
    refine tU 3 (.pointer (some ⟨b,0,none⟩)) rfl hH ?_;try go_simp
    refine tU 4 (.pointer (some ⟨q,11,none⟩)) rfl hH ?_;try go_simp
    refine tS 5 (.int .i64 (z:Int)) rfl (Or.inl ⟨by rfl,by intro wz hSw;have hc:=hSw.1;go_simp⟩) hH ?_;try go_simp
    refine tU 6 (.pointer (some ⟨p,5,none⟩)) rfl hH ?_;try go_simp
    refine tS 7 (.int .u32 y) rfl (Or.inl ⟨by rfl,by intro wz hSw;have hc:=hSw.2;go_simp⟩) hH ?_;try go_simp
    refine tU 8 (.pointer (some ⟨b,0,none⟩)) rfl hH ?_;try go_simp
    refine tU 9 (.pointer (some ⟨b,141,none⟩)) rfl hH ?_;try go_simp
    refine tU 10 (.pointer (some ⟨b,141+z,none⟩)) rfl hH ?_;try go_simp
    refine tU 12 (.pointer (some ⟨b,0,none⟩)) rfl hH ?_;try go_simp
    refine tU 13 (.pointer (some ⟨b,237,none⟩)) rfl hH ?_;try go_simp
    refine zC 11 rfl (fun K hK=>?_)
    go_simp
    refine hK.out _ _ (⟨keepS hH.1 hqb,keepS hH.2 hpb⟩) (fun hN=>?_)
    clear hK K hH
    have hH:=hN
    clear hN
    try go_simp
    refine tU 14 (.pointer (some ⟨b,237+z,none⟩)) rfl hH ?_;try go_simp
    refine zL 15 rfl (fun K hK=>?_)
    go_simp
    refine hK.out _ _ ?_
    clear hK K
    try go_simp
    refine doneZ (by kernel_rfl) ?_ _
    clear hH
    go_wp2
    go_ret
    obtain⟨s1,t1⟩:=SV.out.setWd z hz1 y
    obtain⟨s2,t2⟩:=s1.setTh z hz1 true
    have e1:=HF2.out
    have e2:=HR2.out
    refine⟨by rw[e2];simp[hxy],by rw[e1];exact s2.dr.dr,((TV.out.trans t1).trans t2).dr.dr⟩
end Go.Proofs.YtpiohehijkpghabGreatDoor.Co
