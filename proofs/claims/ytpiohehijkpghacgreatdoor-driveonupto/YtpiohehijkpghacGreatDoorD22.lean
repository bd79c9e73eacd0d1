/- A core that takes one in: the program. -/
import Derived.Test.YtpiohehijkpghacGreatDoorD21
open Go renaming yieldsIf_load_mid->Ab,wpList_load_mid->Af,results_none->Ah,bodyPost_end->Aj
open Go.RowKit.Below renaming refl->WZ
open Go.Value renaming slice->Ag
open List renaming eq_nil_of_length_eq_zero->Ad
open Nat renaming le_refl->Aa,zero_add->Ai,le_trans->Ak
open Option.some renaming inj->Ae
set_option maxHeartbeats 8000000
set_option maxRecDepth 20000
set_option linter.unusedSimpArgs false
set_option linter.unusedVariables false
open Go.Proofs.Tryz
namespace Go.Proofs.YtpiohehijkpghacGreatDoor.Co
open Go.RowKit
open Hy
open Wi Od Re.Hy
open Gu.Hy (Tb tcs)
theorem xQ{N:Nat}{w:World}{b:Nat}{s:Cr}{L:Sls}(S:St N w b s L):Calls prog 61 #[.pointer (some ⟨b,0,none⟩)] w fun e w'=>e=.returned (.int .u64 (chN s))/\∃v,St N w' b (chS s) {L with r:=v}/\To b w L w' {L with r:=v}/\∀g,v.ownBlock=some g->0<(chS s).scr.length->L.r.ownBlock=some g/\0<s.scr.length:=by
 cases h:s.scr with
 |nil=>
  obtain⟨p,c,e,hl⟩:=S.its.ir
  rw[h]at e
  have k336:w.cell? ⟨b,336,none⟩=some (.slice p 0 c):=(zd S.row (by omega)).trans (congrArg some e)
  have e1:chN s=0:=by unfold chN;rw[h]
  have e2:chS s=s:=by unfold chS;rw[h];simp only[List.tail_nil];rw[<-h]
  rw[e1,e2]
  clear hl
  have HS:Hid (St N w b s L):=S
  have HZ:Hid (0<s.scr.length->0<(@List.nil Int).length):=fun h0=>by rw[h]at h0;exact h0
  clear S
  go_enter func61,ntmps61
  go_wp2
  go_ret
  exact⟨rfl,L.r,HS.out,To.refl b w L,fun g hg h0=>⟨hg,HZ.out h0⟩⟩
 |cons x l=>
  obtain⟨p,c,e,hl⟩:=S.its.ir
  rw[h]at e hl
  obtain⟨g,o,rfl,hlt,hc⟩:=hl.sure (by simp)
  have hle:=hl.le
  simp only[List.length_cons]at e hle
  have k336:w.cell? ⟨b,336,none⟩=some (.slice (some ⟨g,o,none⟩) (l.length+1) c):=(zd S.row (by omega)).trans (congrArg some e)
  have kx:w.cell? ⟨g,o,none⟩=some (.int .i64 x):=by simpa[ics]using hc 0 (.int .i64 x) (by simp[ics])
  have fr:w.frozen? ⟨b,336,none⟩=false:=frozen_of_row _ _ _ _ _ S.row
  have hc1:1<=c:=by omega
  have e1:chN s=x%18446744073709551616:=by unfold chN;rw[h]
  have e2:chS s={s with scr:=l}:=by unfold chS;rw[h];rfl
  rw[e1,e2]
  have HS:Hid (St N w b s L):=S
  have HL:Hid (LC w (some ⟨g,o,none⟩) (x::l).length c 1 (ics (x::l))):=hl
  have HN:Hid (¬own b L g):=S.its.sr g (by rw[e];rfl) (by rw[h];simp)
  have HR:Hid (L.r.ownBlock=some g/\0<s.scr.length):=⟨by rw[e];rfl,by rw[h];simp⟩
  clear S hl hc e h e1 e2 hlt
  have hd:ics l=(ics (x::l)).drop (1*1):=by simp[ics]
  go_enter func61,ntmps61
  go_wp2
  ·go_ret
   refine⟨rfl,.slice (some ⟨g,o,none⟩) l.length 0,St.cell HS.out.row (HS.out.its.setR (l:=l) ⟨_,0,rfl,?_⟩ (fun g' hg' h0=>?_)) 336 _ (fun j hj=>znD s L _ j hj),jN w 336 _ (fun g hg=>.inl hg),fun g' hg' _=>HR.out.1.trans (by cases hg';rfl)⟩
   ·have hz:l.length=0:=by omega
    obtain rfl:l=[]:=Ad hz
    exact Wi.zd7 w _ 1
   ·omega
  ·go_ret
   refine⟨rfl,.slice (some ⟨g,o+1,none⟩) l.length (c-1),St.cell HS.out.row (HS.out.its.setR (l:=l) ⟨_,c-1,rfl,?_⟩ (fun g' hg' h0=>?_)) 336 _ (fun j hj=>znD s L _ j hj),jN w 336 _ (fun g hg=>.inl hg),fun g' hg' _=>HR.out.1.trans (by cases hg';rfl)⟩
   ·rw[hd]
    have:=HL.out.drop 1 (by simp) (a:=some ⟨g,o+1,none⟩) (fun _=>rfl) rfl
    simpa using this
   ·obtain rfl:g=g':=Ae hg'
    exact HN.out
theorem Apt.scr{b q:Nat}{s:Cr}{L:Sls}(A:Apt b q s L){v:Value}{k:List Int}(h:∀g,v.ownBlock=some g->0<k.length->L.r.ownBlock=some g/\0<s.scr.length):Apt b q {s with scr:=k} {L with r:=v}:=
 ⟨A.o,A.m,A.f,A.sl,fun g hg h0=>A.r g (h g hg h0).1 (h g hg h0).2,A.g1,A.g2⟩
theorem zfx(x:Int):IntKind.u32.wrap x=x%4294967296:=by rfl
abbrev tbL(t:Tb):List Value:=(rowOf (tat t) 64).toList
theorem St.table{N:Nat}{w:World}{b:Nat}{s:Cr}{L:Sls}(S:St N w b s L):w.rangeAt b 43 (tbL s.tb):=jx S.row (by omega) (zpb s L)
theorem xB(t:Tb):(prog.info? 56).map (·.size)=some (tbL t).length:=by
 rw[Array.length_toList,zf]
 exact Gu.yc
theorem zmg{t:Tb}(pc:Int)(hp:U32 pc)(w:World):Calls prog 172 #[.agg (tbL t).toArray,.int .u32 pc] w fun e w'=>e=.returned (.tuple #[.bool (brM t pc).1,.int .u32 (brM t pc).2])/\Below w.heap.size w w':=by
 have e:(tbL t).toArray=tcs t:=by rw[kZ]
 rw[e]
 exact Gu.gBr t pc hp.1 hp.2 w
theorem zol{t:Tb}(ht:Gu.TbOk t)(pc:Int)(hp:U32 pc)(w:World):Calls prog 173 #[.agg (tbL t).toArray,.int .u32 pc] w fun e w'=>e=.returned (.tuple #[.int .u32 (vaM t pc).1,.bool (vaM t pc).2])/\Below w.heap.size w w':=by
 have e:(tbL t).toArray=tcs t:=by rw[kZ]
 rw[e]
 exact Gu.gVa t ht pc hp.1 hp.2 w
theorem zfy{N:Nat}{w:World}{b:Nat}{s:Cr}{L:Sls}(S:St N w b s L)(ht:Gu.TbOk s.tb)(pc k:Int)(hp:U32 pc)(k0:0<=k)(k1:k<=18446744073709551615):
  Calls prog 139 #[.pointer (some ⟨b,0,none⟩),.int .u32 pc,.int .u64 k] w fun e w'=>e=.returned (.tuple #[.int .u32 (valO mach s pc k).1,.bool (valO mach s pc k).2])/\Below w.heap.size w w':=by
 have HS:Hid (St N w b s L):=S
 have CV:=fun W=>zol ht pc hp W
 have E:Hid (∀j,j=k%3->valO mach s pc k=if j=1 then(0,false)else if j=2 then(k%4294967296,true)else vaM s.tb pc):=fun j hj=>by subst hj;rfl
 obtain⟨r,hr⟩:∃r,r=valO mach s pc k:=⟨_,rfl⟩
 rw[<-hr]at E⊢
 obtain⟨v,hv⟩:∃v,v=vaM s.tb pc:=⟨_,rfl⟩
 rw[<-hv]at E CV
 obtain⟨j,hj⟩:∃j,j=k%3:=⟨_,rfl⟩
 have F:=E.out j hj
 have hj0:0<=j/\j<3:=by omega
 clear S hr hv E
 by_cases h1:j=1
 ·rw[if_pos h1]at F
  have hm:k%3=1:=by omega
  clear hj hj0 h1
  subst F
  go_enter func139,ntmps139
  go_wp2
  go_ret2
  exact⟨rfl,WZ _ _⟩
 ·by_cases h2:j=2
  ·rw[if_neg h1,if_pos h2]at F
   have hm:k%3=2:=by omega
   clear hj hj0 h1 h2
   subst F
   go_enter func139,ntmps139
   go_wp2
   go_ret2
   exact⟨rfl,WZ _ _⟩
  ·rw[if_neg h1,if_neg h2]at F
   have hm:k%3=0:=by omega
   clear hj hj0 h1 h2
   subst F
   go_enter func139,ntmps139
   go_wp2_with(refine Af rfl 56 _ rfl b 43 rfl (tbL s.tb) _ HS.out.table underlying56 rfl (xB _) ?_)
   refine(CV _).mono ?_
   rintro e V3 ⟨rfl,hk⟩
   go_wp2
   go_ret2
   exact⟨rfl,hk⟩
theorem zjH{N:Nat}{w:World}{b:Nat}{s:Cr}{L:Sls}(S:St N w b s L)(ht:Gu.TbOk s.tb)(o:Dg)(hp:U32 o.pc)(i0:-2147483648<=o.i.im)(i1:o.i.im<=2147483647):
  Calls prog 138 #[.pointer (some ⟨b,0,none⟩),dgv o] w fun e w'=>e=.returned (.int .u32 (wayO mach s o).2)/\∃L',St N w' b (wayO mach s o).1 L'/\To b w L w' L'/\∀q,Apt b q s L->Apt b q (wayO mach s o).1 L':=by
 have CT:=fun W=>zau o.i W
 have CB:=fun W=>zmg (t:=s.tb) o.pc hp W
 obtain⟨x,hx⟩:∃x,IntKind.u32.wrap o.i.im=x:=⟨_,rfl⟩
 obtain⟨y,hy⟩:∃y,IntKind.u32.wrap (o.pc+x)=y:=⟨_,rfl⟩
 obtain⟨z,hz⟩:∃z,IntKind.u32.wrap (o.pc+4)=z:=⟨_,rfl⟩
 have ey:(o.pc+o.i.im)%4294967296=y:=by rw[<-hy,<-hx,zfx,zfx];omega
 have ez:(o.pc+4)%4294967296=z:=by rw[<-hz,zfx]
 obtain⟨r,hr⟩:∃r,r=wayO mach s o:=⟨_,rfl⟩
 obtain⟨tk,htk⟩:∃tk,tk=(brM s.tb o.pc).1:=⟨_,rfl⟩
 obtain⟨tg,htg⟩:∃tg,tg=(brM s.tb o.pc).2:=⟨_,rfl⟩
 have HR:Hid (r=if o.i.op=3 then(s,y)else if trn o.i then(chS s,if(tk^^decide (chN s%2=1))then(if o.i.op=4 then tg else y)else z)else(s,z)):=by
  show _=_
  rw[hr,htk,htg,<-ey,<-ez]
  rfl
 rw[<-hr]
 rw[<-htk,<-htg]at CB
 have HS:Hid (St N w b s L):=S
 clear S hr htk htg ey ez
 go_enter func138,ntmps138
 go_upto_region 1 with fail
 refine Wi.zj (Φ:=fun W=>Code.wp _ _ _ _ W) ?_
 intro V hV hVb
 have BV:Hid (Bx V w.heap.size o):=hV
 have SV:Hid (St N V b s L):=HS.out.below hVb
 have TV:Hid (To b w L V L):=ze L hVb
 have HQ:Hid (¬own b L w.heap.size):=fun h=>by have:=qN HS.out h;omega
 clear hV hVb HS
 generalize w.heap.size=q at*
 refine zq (S:=fun w'=>w'.cell? ⟨q,1,none⟩=some (.int .u32 o.pc)/\w'.cell? ⟨q,6,none⟩=some (.int .i32 o.i.im)) [] (by kernel_rfl) (⟨zl BV.out 1 rfl,zl BV.out 6 rfl⟩) (fun hH=>?_)
 refine tU 0 (.pointer (some ⟨q,1,none⟩)) ?_;go_simp
 refine tA 1 (.int .u32 o.pc) ?_;go_simp
 refine tU 2 (.int .u32 z) ?_;go_simp
 refine tU 3 (.pointer (some ⟨q,1,none⟩)) ?_;go_simp
 refine tA 4 (.int .u32 o.pc) ?_;go_simp
 refine tU 5 (.pointer (some ⟨q,2,none⟩)) ?_;go_simp
 refine tU 6 (.pointer (some ⟨q,6,none⟩)) ?_;go_simp
 refine tB 7 (.int .i32 o.i.im) ?_;go_simp
 refine tU 8 (.int .u32 x) ?_;go_simp
 refine tU 9 (.int .u32 y) ?_;go_simp
 refine tU 10 (.int .u32 z) ?_;go_simp
 refine tU 11 (.int .u32 y) ?_;go_simp
 refine zE (by kernel_rfl) ?_ _
 clear hH
 have c2:=zl BV.out 2 (v:=.int .i64 o.i.op) rfl
 have HOP:Hid (∀k,o.i.op=k->o.i.op=k):=fun _ h=>h
 obtain⟨p,hpp⟩:∃p,p=o.i.op:=⟨_,rfl⟩
 rw[<-hpp]at c2 HR
 have HP:Hid (p=o.i.op):=hpp
 clear hpp HOP
 by_cases h3:p=3
 ·have hr:=HR.out
  rw[if_pos h3]at hr
  subst hr h3
  clear HR
  go_wp2
  go_ret
  exact⟨rfl,L,SV.out.dr,TV.out.dr,fun q h=>h⟩
 ·have h3':(p==3)=false:=by simpa using h3
  have hr:=HR.out
  rw[if_neg h3]at hr
  have HR2:Hid (r=if trn o.i then(chS s,if(tk^^decide (chN s%2=1))then(if p=4 then tg else y)else z)else(s,z)):=hr
  clear HR hr
  go_wp2_with(refine Af rfl 78 _ rfl q 2 rfl (ivL o.i).toList _ (xh BV.out) underlying78 rfl (qK _) ?_)
  refine(CT _).mono ?_
  rintro e V2 ⟨rfl,hk⟩
  have B2:Hid (Bx V2 q o):=BV.out.dr.below hk
  have S2:Hid (St N V2 b s L):=SV.out.dr.below hk
  have T2:Hid (To b w L V2 L):=TV.out.dr.trans (ze L hk)
  clear hk CT BV SV TV c2
  cases htr:trn o.i with
  |false=>
   have hr:=HR2.out
   rw[htr]at hr
   simp only[Bool.false_eq_true,if_false]at hr
   subst hr
   clear HR2 htr
   go_wp2
   go_ret
   exact⟨rfl,L,S2.out,T2.out,fun q h=>h⟩
  |true=>
   have hr:=HR2.out
   rw[htr]at hr
   simp only[if_true]at hr
   have HR3:Hid (r=(chS s,if(tk^^decide (chN s%2=1))then(if p=4 then tg else y)else z)):=hr
   clear HR2 htr hr
   go_upto_region 6 with fail
   refine zq (S:=fun w'=>w'.rangeAt b 43 (tbL s.tb)/\w'.cell? ⟨q,1,none⟩=some (.int .u32 o.pc)) [] (by kernel_rfl) (⟨S2.out.table,zl B2.out 1 rfl⟩) (fun hH=>?_)
   refine tU 0 (.pointer (some ⟨b,0,none⟩)) ?_;go_simp
   refine tU 1 (.pointer (some ⟨b,0,none⟩)) ?_;go_simp
   refine tU 2 (.pointer (some ⟨b,43,none⟩)) ?_;go_simp
   refine tS 3 (.agg (tbL s.tb).toArray) rfl (Ab (by rfl) 56 _ rfl _ _ rfl (tbL s.tb) _ (fun wz hSw=>hSw.1) underlying56 rfl (xB _)) hH ?_;go_simp
   refine tU 4 (.pointer (some ⟨q,1,none⟩)) ?_;go_simp
   refine tB 5 (.int .u32 o.pc) ?_;go_simp
   refine zC 6 rfl (fun K hK=>?_)
   go_simp
   refine(CB _).mono ?_
   rintro e V3 ⟨rfl,hk⟩
   have HK:Hid (Below V2.heap.size V2 V3):=zg hk (Aa _)
   go_wp2_with fail
   refine hK.out _ _ (⟨xg hk (hH.1),zn hk (hH.2)⟩) (fun hN=>?_)
   clear hK K hH
   have hH:=hN
   clear hN
   try go_simp
   refine tU 7 (.tuple #[.bool tk,.int .u32 tg]) ?_;go_simp
   refine tU 8 (.bool tk) ?_;go_simp
   refine tU 9 (.int .u32 tg) ?_;go_simp
   refine tU 10 (.bool tk) ?_;go_simp
   refine tU 11 (.int .u32 tg) ?_;go_simp
   refine zE (by kernel_rfl) ?_ _
   have S3:Hid (St N V3 b s L):=S2.out.below HK.out
   have B3:Hid (Bx V3 q o):=B2.out.below HK.out
   have T3:Hid (To b w L V3 L):=T2.out.trans (ze L HK.out)
   clear HK hH S2 B2 T2 CB
   go_wp2_with fail
   refine(xQ S3.out).mono ?_
   rintro e V4 ⟨rfl,v4,s4,t4,a4⟩
   have S4:Hid (St N V4 b (chS s) {L with r:=v4}):=s4
   have T4:Hid (To b w L V4 {L with r:=v4}):=T3.out.trans t4
   have A4:Hid (∀q,Apt b q s L->Apt b q (chS s) {L with r:=v4}):=fun q h=>h.scr a4
   have B4:Hid (Bx V4 q o):=B3.out.to t4 HQ.out
   clear s4 t4 a4 S3 T3 B3
   have c2:V4.cell? ⟨q,2,none⟩=some (.int .i64 p):=zl B4.out 2 (by rw[HP.out];rfl)
   obtain⟨n,hn⟩:∃n,n=chN s:=⟨_,rfl⟩
   rw[<-hn]
   have n0:0<=n:=by rw[hn];exact za2 s
   have hr:=HR3.out
   rw[<-hn]at hr
   clear hn HR3
   rcases(by omega:n%2=1\/n%2=0)with hm|hm
   ·rw[decide_eq_true hm]at hr
    have HR4:Hid (r=(chS s,if(tk^^true)then(if p=4 then tg else y)else z)):=hr
    clear hr
    cases tk with
    |true=>
     have hr:=HR4.out
     subst hr
     clear HR4
     go_wp2
     go_ret
     exact⟨rfl,_,S4.out,T4.out,A4.out⟩
    |false=>
     by_cases h4:p=4
     ·have hr:=HR4.out
      rw[if_pos h4]at hr
      subst hr h4
      clear HR4
      go_wp2
      go_ret
      exact⟨rfl,_,S4.out,T4.out,A4.out⟩
     ·have h4':(p==4)=false:=by simpa using h4
      have hr:=HR4.out
      rw[if_neg h4]at hr
      subst hr
      clear HR4
      go_wp2
      go_ret
      exact⟨rfl,_,S4.out,T4.out,A4.out⟩
   ·rw[decide_eq_false (by omega)]at hr
    have HR4:Hid (r=(chS s,if(tk^^false)then(if p=4 then tg else y)else z)):=hr
    clear hr
    cases tk with
    |false=>
     have hr:=HR4.out
     subst hr
     clear HR4
     go_wp2
     go_ret
     exact⟨rfl,_,S4.out,T4.out,A4.out⟩
    |true=>
     by_cases h4:p=4
     ·have hr:=HR4.out
      rw[if_pos h4]at hr
      subst hr h4
      clear HR4
      go_wp2
      go_ret
      exact⟨rfl,_,S4.out,T4.out,A4.out⟩
     ·have h4':(p==4)=false:=by simpa using h4
      have hr:=HR4.out
      rw[if_neg h4]at hr
      subst hr
      clear HR4
      go_wp2
      go_ret
      exact⟨rfl,_,S4.out,T4.out,A4.out⟩
theorem Bx.nx{w:World}{q:Nat}{o:Dg}(h:Bx w q o)(x:Int):Bx (w.setCell ⟨q,13,none⟩ (.int .u32 x)) q {o with next:=x}:=h.put 13 _ (by omega) rfl
theorem Bx.late{w:World}{q:Nat}{o:Dg}(h:Bx w q o)(x:Int):Bx (w.setCell ⟨q,15,none⟩ (.int .i64 x)) q {o with late:=x}:=h.put 15 _ (by omega) rfl
theorem Bx.car{w:World}{q:Nat}{o:Dg}(h:Bx w q o)(x:Bool):Bx (w.setCell ⟨q,16,none⟩ (.bool x)) q {o with car:=x}:=h.put 16 _ (by omega) rfl
theorem Bx.gsd{w:World}{q:Nat}{o:Dg}(h:Bx w q o)(x:Bool):Bx (w.setCell ⟨q,14,none⟩ (.bool x)) q {o with gs:=x}:=h.put 14 _ (by omega) rfl
theorem Apt.fro{b q:Nat}{s:Cr}{L:Sls}(h:Apt b q s L)(x:Int):Apt b q {s with fro:=x} L:=⟨h.o,h.m,h.f,h.sl,h.r,h.g1,h.g2⟩
theorem Apt.words{b q:Nat}{s:Cr}{L:Sls}(h:Apt b q s L)(x:Int->Int)(y:Int->Bool):Apt b q {s with wd:=x,th:=y} L:=⟨h.o,h.m,h.f,h.sl,h.r,h.g1,h.g2⟩
theorem zbi{N:Nat}{w V:World}{b q:Nat}{s:Cr}{L L':Sls}{o o':Dg}{j:Nat}{v:Value}(S:St N V b s L')(A:Apt b q s L')(T:Toq b q w L V L')(B:Bx (V.setCell ⟨q,j,none⟩ v) q o'):St N (V.setCell ⟨q,j,none⟩ v) b s L'/\Bx (V.setCell ⟨q,j,none⟩ v) q o'/\Toq b q w L (V.setCell ⟨q,j,none⟩ v) L':=
 ⟨S.other (zZ V q j v) A,B,T.trans (zax (zZ V q j v))⟩
theorem zky(s:Cr):chN s<=18446744073709551615:=by
 unfold chN
 split
 ·decide
 ·omega
theorem zfz{N:Nat}{w:World}{b q:Nat}{s:Cr}{L:Sls}{o:Dg}(S:St N w b s L)(B:Bx w q o)(A:Apt b q s L)(ht:Gu.TbOk s.tb)(hp:U32 o.pc)(i0:-2147483648<=o.i.im)(i1:o.i.im<=2147483647)(ht0:0<=o.to)(ht1:o.to<96):
  Calls prog 97 #[.pointer (some ⟨b,0,none⟩),.pointer (some ⟨q,0,none⟩)] w fun e w'=>e=.returned (.tuple #[])/\∃L',St N w' b (gueO mach s o).1 L'/\Bx w' q (gueO mach s o).2/\Apt b q (gueO mach s o).1 L'/\Toq b q w L w' L':=by
 have CW:Hid (∀W,Below w.heap.size w W->Calls prog 138 #[.pointer (some ⟨b,0,none⟩),dgv o] W fun e w'=>e=.returned (.int .u32 (wayO mach s o).2)/\∃L',St N w' b (wayO mach s o).1 L'/\To b W L w' L'/\∀q,Apt b q s L->Apt b q (wayO mach s o).1 L'):=fun W hW=>zjH (S.below hW) ht o hp i0 i1
 obtain⟨r,hr⟩:∃r,r=gueO mach s o:=⟨_,rfl⟩
 obtain⟨s1,hs1⟩:∃s1,s1=(wayO mach s o).1:=⟨_,rfl⟩
 obtain⟨x,hx⟩:∃x,x=(wayO mach s o).2:=⟨_,rfl⟩
 have HR:Hid (r=if ldn o.i.op=0 then({s1 with fro:=x},{o with next:=x})else gueL mach {s1 with fro:=x} {o with next:=x}):=by show _=_;rw[hr,hs1,hx];rfl
 have htb:s1.tb=s.tb:=by
  rw[hs1]
  unfold wayO
  split
  ·rfl
  ·split<;>rfl
 rw[<-hr]
 rw[<-hs1,<-hx]at CW
 have HT:Hid (Gu.TbOk s1.tb):=by rw[htb];exact ht
 have HB:Hid (Bx w q o):=B
 have HA:Hid (Apt b q s L):=A
 have HS:Hid (St N w b s L):=S
 have c28:Hid (w.rangeAt q 0 (dgl o)):=zew B fun i v hi=>by rw[Ai];exact hi
 clear S A hr hs1 hx htb ht B
 go_enter func97,ntmps97
 go_wp2_with(refine Af rfl 132 _ rfl q 0 rfl (dgl o) _ c28.out underlying132 rfl (zK o) ?_)
 refine(CW.out _ (WZ _ _)).mono ?_
 rintro e V1 ⟨rfl,L1,t1,t2,t3⟩
 have S1:Hid (St N V1 b s1 L1):=t1
 have T1:Hid (Toq b q w L V1 L1):=t2.q
 have A1:Hid (Apt b q s1 L1):=t3 q HA.out
 have B1:Hid (Bx V1 q o):=HB.out.to t2 HA.out.o
 have c13:=zl B1.out 13 (v:=.int .u32 o.next) rfl
 have f13:=qw B1.out 13
 clear t1 t2 t3
 go_upto_region 1 with fail
 obtain⟨s2,b2,t2⟩:=zbi (o:=o) S1.out A1.out T1.out (B1.out.nx x)
 have S2:Hid (St N (V1.setCell ⟨q,13,none⟩ (.int .u32 x)) b s1 L1):=s2
 have B2:Hid (Bx (V1.setCell ⟨q,13,none⟩ (.int .u32 x)) q {o with next:=x}):=b2
 have T2:Hid (Toq b q w L (V1.setCell ⟨q,13,none⟩ (.int .u32 x)) L1):=t2
 clear s2 b2 t2 S1 B1 T1 c13 f13 c28 CW HA HB HS
 generalize V1.setCell ⟨q,13,none⟩ (.int .u32 x)=V2 at*
 have c13:V2.cell? ⟨q,13,none⟩=some (.int .u32 x):=zl B2.out 13 rfl
 have k337:V2.cell? ⟨b,337,none⟩=some (.int .u32 s1.fro):=(zd S2.out.row (by omega)).trans rfl
 have f337:=S2.out.frozen 337
 go_upto_region 2 with fail
 obtain⟨s3,t3⟩:=S2.out.setFro x
 have S3:Hid (St N (V2.setCell ⟨b,337,none⟩ (.int .u32 x)) b {s1 with fro:=x} L1):=s3
 have B3:Hid (Bx (V2.setCell ⟨b,337,none⟩ (.int .u32 x)) q {o with next:=x}):=B2.out.to t3 A1.out.o
 have T3:Hid (Toq b q w L (V2.setCell ⟨b,337,none⟩ (.int .u32 x)) L1):=T2.out.trans t3.q
 have A3:Hid (Apt b q {s1 with fro:=x} L1):=A1.out.fro x
 clear s3 t3 S2 B2 T2 A1 c13 k337 f337
 generalize V2.setCell ⟨b,337,none⟩ (.int .u32 x)=V3 at*
 obtain⟨s2,hs2⟩:∃s2:Cr,s2={s1 with fro:=x}:=⟨_,rfl⟩
 obtain⟨o2,ho2⟩:∃o2:Dg,o2={o with next:=x}:=⟨_,rfl⟩
 rw[<-hs2]at S3 A3 HR
 rw[<-ho2]at B3 HR
 have HT2:Hid (Gu.TbOk s2.tb):=by rw[hs2];exact HT.out
 have HO:Hid (o2.pc=o.pc/\o2.i=o.i/\o2.to=o.to):=by rw[ho2];exact⟨rfl,rfl,rfl⟩
 have hop:o.i.op=o2.i.op:=by rw[HO.out.2.1]
 rw[hop]at HR
 have hp2:U32 o2.pc:=by rw[HO.out.1];exact hp
 have to0:0<=o2.to:=by rw[HO.out.2.2];exact ht0
 have to1:o2.to<96:=by rw[HO.out.2.2];exact ht1
 clear HT hs2 ho2 hop HO hp ht0 ht1 i0 i1
 have c2:=zl B3.out 2 (v:=.int .i64 o2.i.op) rfl
 have CL:=fun W=>jd o2.i.op W
 obtain⟨ld,hld⟩:∃ld,ld=ldn o2.i.op:=⟨_,rfl⟩
 rw[<-hld]at CL HR
 go_wp2_with fail
 refine(CL _).mono ?_
 rintro e V4 ⟨rfl,hk⟩
 subst hk
 have S4:Hid (St N V4 b s2 L1):=S3.out
 have B4:Hid (Bx V4 q o2):=B3.out
 have T4:Hid (Toq b q w L V4 L1):=T3.out
 clear CL S3 B3 T3 c2
 by_cases h0:ld=0
 ·have hr:=HR.out
  rw[if_pos h0]at hr
  have h0':(ld==0)=true:=by simp[h0]
  clear hld HR
  subst hr
  go_wp2_with fail
  refine bodyPost_ret (Ah rfl _ _ _) rfl ⟨rfl,L1,?_⟩
  exact⟨S4.out,B4.out,A3.out,T4.out⟩
 ·have h0':(ld==0)=false:=by simpa using h0
  have hr:=HR.out
  rw[if_neg h0]at hr
  have HR2:Hid (r=gueL mach s2 o2):=hr
  clear hld HR hr h0
  go_wp2_with fail
  refine(xQ S4.out).mono ?_
  rintro e V5 ⟨rfl,v5,s5,t5,a5⟩
  have S5:Hid (St N V5 b (chS s2) {L1 with r:=v5}):=s5
  have T5:Hid (Toq b q w L V5 {L1 with r:=v5}):=T4.out.trans t5.q
  have A5:Hid (Apt b q (chS s2) {L1 with r:=v5}):=A3.out.scr a5
  have B5:Hid (Bx V5 q o2):=B4.out.to t5 A3.out.o
  clear s5 t5 a5 S4 T4 B4 A3
  generalize ({L1 with r:=v5}:Sls)=L5 at*
  obtain⟨n,hn⟩:∃n,n=chN s2:=⟨_,rfl⟩
  have n0:0<=n:=by rw[hn];exact za2 s2
  have n1:n<=18446744073709551615:=by rw[hn];exact zky s2
  rw[<-hn]
  obtain⟨s3,hs3⟩:∃s3,s3=chS s2:=⟨_,rfl⟩
  have hv3:∀k,valO mach s2 o2.pc k=valO mach s3 o2.pc k:=fun k=>by rw[hs3];rfl
  have HT3:Hid (Gu.TbOk s3.tb):=by rw[hs3];exact HT2.out
  have HR3:Hid (r=if(valO mach s3 o2.pc (n/10/2)).2=true/\o2.rd≠0 then({s3 with wd:=upI s3.wd o2.to (valO mach s3 o2.pc (n/10/2)).1,th:=upB s3.th o2.to true},{o2 with late:=n%10,car:=decide (n/10%2=1),gs:=true})else(s3,{o2 with late:=n%10,car:=decide (n/10%2=1)})):=by
   show _=_
   rw[HR2.out,hn]
   unfold gueL
   simp only[hv3]
   rw[hs3]
   rfl
  rw[<-hs3]at S5 A5
  clear HR2 hn hv3 hs3 HT2
  have c15:=zl B5.out 15 (v:=.int .i64 o2.late) rfl
  have f15:=qw B5.out 15
  have m10:0<=n%10/\n%10<10:=by omega
  obtain⟨j,hj⟩:∃j,j=n%10:=⟨_,rfl⟩
  obtain⟨n2,hn2⟩:∃n2,n2=n/10:=⟨_,rfl⟩
  go_upto_region 5 with fail
  rw[<-hj]at m10
  rw[<-hj,<-hn2]at HR3
  simp only[<-hj]
  obtain⟨s6,b6,t6⟩:=zbi (o:=o2) S5.out A5.out T5.out (B5.out.late j)
  have S6:Hid (St N (V5.setCell ⟨q,15,none⟩ (.int .i64 j)) b s3 L5):=s6
  have B6:Hid (Bx (V5.setCell ⟨q,15,none⟩ (.int .i64 j)) q {o2 with late:=j}):=b6
  have T6:Hid (Toq b q w L (V5.setCell ⟨q,15,none⟩ (.int .i64 j)) L5):=t6
  clear s6 b6 t6 S5 B5 T5 c15 f15 hj m10
  generalize V5.setCell ⟨q,15,none⟩ (.int .i64 j)=V6 at*
  have c16:=zl B6.out 16 (v:=.bool o2.car) rfl
  have f16:=qw B6.out 16
  have n20:0<=n2:=by omega
  have n21:n2<=18446744073709551615:=by omega
  go_upto_region 6 with fail
  simp only[<-hn2]
  clear hn2 n0 n1
  obtain⟨cr,hcr⟩:∃cr,cr=decide (n2%2=1):=⟨_,rfl⟩
  obtain⟨n4,hn4⟩:∃n4,n4=n2/2:=⟨_,rfl⟩
  rw[<-hcr,<-hn4]at HR3
  have HcrA:Hid (∀i:Decidable (n2%2=1),@decide (n2%2=1) i=cr):=fun i=>by rw[hcr];congr
  have HcrB:Hid ((n2%2==1)=cr):=by show _=_;rw[hcr];rcases(by omega:n2%2=1\/n2%2=0)with h|h<;>rw[h]<;>rfl
  clear hcr
  go_upto_region 7 with fail
  have hcrA:=HcrA.out
  have hcrB:=HcrB.out
  try simp only[hcrA]
  try simp only[hcrB]
  clear hcrA hcrB HcrA HcrB
  obtain⟨s7,b7,t7⟩:=zbi (o:={o2 with late:=j}) S6.out A5.out T6.out (B6.out.car cr)
  have S7:Hid (St N (V6.setCell ⟨q,16,none⟩ (.bool cr)) b s3 L5):=s7
  have B7:Hid (Bx (V6.setCell ⟨q,16,none⟩ (.bool cr)) q {o2 with late:=j,car:=cr}):=b7
  have T7:Hid (Toq b q w L (V6.setCell ⟨q,16,none⟩ (.bool cr)) L5):=t7
  clear s7 b7 t7 S6 B6 T6 c16 f16
  generalize V6.setCell ⟨q,16,none⟩ (.bool cr)=V7 at*
  have c1:=zl B7.out 1 (v:=.int .u32 o2.pc) rfl
  have n40:0<=n4:=by omega
  have n41:n4<=18446744073709551615:=by omega
  have CV:Hid (Calls prog 139 #[.pointer (some ⟨b,0,none⟩),.int .u32 o2.pc,.int .u64 n4] V7 fun e w'=>e=.returned (.tuple #[.int .u32 (valO mach s3 o2.pc n4).1,.bool (valO mach s3 o2.pc n4).2])/\Below V7.heap.size V7 w'):=zfy S7.out HT3.out o2.pc n4 hp2 n40 n41
  obtain⟨y,hy⟩:∃y,y=(valO mach s3 o2.pc n4).1:=⟨_,rfl⟩
  obtain⟨ok,hok⟩:∃ok,ok=(valO mach s3 o2.pc n4).2:=⟨_,rfl⟩
  rw[<-hy,<-hok]at CV HR3
  rw[hn4]at CV
  clear hy hok n40 n41 hp2 HT3
  go_wp2_with fail
  refine CV.out.mono ?_
  rintro e V8 ⟨rfl,hk⟩
  have S8:Hid (St N V8 b s3 L5):=S7.out.below hk
  have B8:Hid (Bx V8 q {o2 with late:=j,car:=cr}):=B7.out.below hk
  have T8:Hid (Toq b q w L V8 L5):=T7.out.trans (ze L5 hk).q
  clear hk S7 B7 T7 c1 CV hn4 n20 n21
  obtain⟨k,hk⟩:∃k,k=o2.rd:=⟨_,rfl⟩
  rw[<-hk]at HR3
  have c10:V8.cell? ⟨q,10,none⟩=some (.int .i64 (k:Int)):=zl B8.out 10 (by rw[hk];rfl)
  have HKK:Hid (k=o2.rd):=hk
  clear hk
  by_cases hc:ok=true/\k≠0
  ·obtain⟨rfl,hk0⟩:=hc
   have hb0:((k:Int) != 0)=true:=by simp[hk0]
   have hr:=HR3.out
   rw[if_pos ⟨rfl,hk0⟩]at hr
   have HR4:Hid (r=({s3 with wd:=upI s3.wd o2.to y,th:=upB s3.th o2.to true},{o2 with late:=j,car:=cr,gs:=true})):=by
    show _=_
    rw[hr,HKK.out]
   clear hr HR3 hk0
   obtain⟨z,hz⟩:∃z:Nat,o2.to=(z:Int):=Int.eq_ofNat_of_zero_le to0
   have hz1:z<96:=by omega
   have c14:=zl B8.out 14 (v:=.bool o2.gs) rfl
   have f14:=qw B8.out 14
   go_upto_region 10 with fail
   obtain⟨s9,b9,t9⟩:=zbi (o:={o2 with late:=j,car:=cr}) S8.out A5.out T8.out (B8.out.gsd true)
   have S9:Hid (St N (V8.setCell ⟨q,14,none⟩ (.bool true)) b s3 L5):=s9
   have B9:Hid (Bx (V8.setCell ⟨q,14,none⟩ (.bool true)) q {o2 with late:=j,car:=cr,gs:=true}):=b9
   have T9:Hid (Toq b q w L (V8.setCell ⟨q,14,none⟩ (.bool true)) L5):=t9
   clear s9 b9 t9 S8 B8 T8 c10 c14 f14
   generalize V8.setCell ⟨q,14,none⟩ (.bool true)=V9 at*
   have c11:V9.cell? ⟨q,11,none⟩=some (.int .i64 (z:Int)):=zl B9.out 11 (by rw[<-hz];rfl)
   have cW:=S9.out.wrd z hz1
   have cT:=S9.out.thr z hz1
   have fW:=S9.out.frozen (141+z)
   have fT:=S9.out.frozen (237+z)
   have z0:0<=(z:Int):=by omega
   have z1:(z:Int)<96:=by omega
   have HZ:Hid (o2.to=(z:Int)):=hz
   clear hz
   refine zq (S:=fun w'=>w'.cell? ⟨q,11,none⟩=some (.int .i64 (z:Int))) [14,18] (by kernel_rfl) (c11) (fun hH=>?_)
   refine tU 0 (.pointer (some ⟨b,0,none⟩)) ?_;go_simp
   refine tU 1 (.pointer (some ⟨q,0,none⟩)) ?_;go_simp
   refine tU 2 (.pointer (some ⟨q,0,none⟩)) ?_;go_simp
   refine tU 3 (.pointer (some ⟨q,11,none⟩)) ?_;go_simp
   refine tS 4 (.int .i64 (z:Int)) rfl (Or.inl ⟨by rfl,by intro wz hSw;have hc:=hSw;go_simp⟩) hH ?_;go_simp
   refine tU 5 (.pointer (some ⟨b,0,none⟩)) ?_;go_simp
   refine tU 6 (.pointer (some ⟨q,0,none⟩)) ?_;go_simp
   refine tU 7 (.pointer (some ⟨q,0,none⟩)) ?_;go_simp
   refine tU 8 (.pointer (some ⟨q,11,none⟩)) ?_;go_simp
   refine tS 9 (.int .i64 (z:Int)) rfl (Or.inl ⟨by rfl,by intro wz hSw;have hc:=hSw;go_simp⟩) hH ?_;go_simp
   refine tU 10 (.int .u32 y) ?_;go_simp
   refine tU 11 (.pointer (some ⟨b,0,none⟩)) ?_;go_simp
   refine tU 12 (.pointer (some ⟨b,141,none⟩)) ?_;go_simp
   refine tU 13 (.pointer (some ⟨b,141+z,none⟩)) ?_;go_simp
   refine tU 15 (.pointer (some ⟨b,0,none⟩)) ?_;go_simp
   refine tU 16 (.pointer (some ⟨b,237,none⟩)) ?_;go_simp
   refine zL 14 rfl (fun K hK=>?_)
   go_simp
   refine hK.out _ _ ?_
   clear hK K
   try go_simp
   refine tV 17 (.pointer (some ⟨b,237+z,none⟩)) rfl (fun h=>absurd h (by decide)) ?_;go_simp
   refine zL 18 rfl (fun K hK=>?_)
   go_simp
   refine hK.out _ _ ?_
   clear hK K
   try go_simp
   refine zE (by kernel_rfl) ?_ _
   clear hH
   go_wp2_with fail
   refine Aj (Ah rfl _ _ _) rfl ⟨rfl,L5,?_⟩
   have HE:=HR4.out
   have e1:r.1={s3 with wd:=upI s3.wd (z:Int) y,th:=upB s3.th (z:Int) true}:=by rw[HE,HZ.out]
   have e2:r.2={o2 with late:=j,car:=cr,gs:=true}:=by rw[HE]
   rw[e1,e2]
   obtain⟨s10,t10⟩:=S9.out.setWd z hz1 y
   obtain⟨s11,t11⟩:=s10.setTh z hz1 true
   exact⟨s11.dr,((B9.out.to t10 A5.out.o).to t11 A5.out.o).dr,A5.out.words _ _,((T9.out.trans t10.q).trans t11.q).dr⟩
  ·have hr:=HR3.out
   rw[if_neg hc]at hr
   have HR4:Hid (r=(s3,{o2 with late:=j,car:=cr})):=by
    show _=_
    rw[hr,HKK.out]
   clear hr HR3
   cases ok with
   |false=>
    clear hc
    go_wp2_with fail
    refine Aj (Ah rfl _ _ _) rfl ⟨rfl,L5,?_⟩
    rw[HR4.out]
    exact⟨S8.out,B8.out,A5.out,T8.out⟩
   |true=>
    have hk0:k=0:=Classical.byContradiction fun h=>hc ⟨rfl,h⟩
    have c10':V8.cell? ⟨q,10,none⟩=some (.int .i64 0):=by rw[c10,hk0];rfl
    clear hc c10 HKK
    go_wp2_with fail
    refine Aj (Ah rfl _ _ _) rfl ⟨rfl,L5,?_⟩
    rw[HR4.out]
    exact⟨S8.out,B8.out,A5.out,T8.out⟩
def dg0:Dg:=⟨0,0,zin,0,0,0,0,0,0,0,false,0,false,zcm⟩
theorem zci(w:World)(z:Dg):(w.alloc (.cells (dgl z).toArray 132)).there w.heap.size 0 28:=Bx.there (o:=z) (heap_alloc_new w _) 0 28 (by omega)
theorem zhR(w:World)(z o:Dg):Bx ((w.alloc (.cells (dgl z).toArray 132)).setCells w.heap.size 0 (dgl o)) w.heap.size o/\Below w.heap.size w ((w.alloc (.cells (dgl z).toArray 132)).setCells w.heap.size 0 (dgl o)):=by
 have hB:Bx (w.alloc (.cells (dgl z).toArray 132)) w.heap.size z:=heap_alloc_new w _
 have h2:=Bx.puts hB 0 (dgl o) (by rw[zF];omega) (o':=o) (by unfold ov;rw[zF];rfl)
 refine⟨h2,?_⟩
 have hg:=zD (w.alloc (.cells (dgl z).toArray 132)) w.heap.size 0 (dgl o)
 have h0:Below w.heap.size w (w.alloc (.cells (dgl z).toArray 132)):=(WZ _ _).alloc (Aa _) _
 exact⟨hg.os.trans h0.os,hg.tape.trans h0.tape,hg.output.trans h0.output,Ak h0.size hg.size,fun g hgl=>(hg.block g (by have:=h0.size;omega) (fun e=>by have:=Ae e;omega)).trans (h0.block g hgl)⟩
structure TakOk(s:Cr):Prop where
 first:First (above s.tak) s.slots s.slots.length
 low:∀p∈s.slots,p.1<s.tak
 lenS:s.slots.length<=1000
 lenU:s.under.length<=1000
 ask:∀q∈s.asked,q.Ok
 lenA:s.asked.length<=10000000
 fro:U32 s.fro
 tak0:0<=s.tak
 tak1:s.tak<=10000000
 nms:Nms s
 tb:Gu.TbOk s.tb
theorem zpv{t:Tb}(ht:Gu.TbOk t){pc v:Int}(hp:U32 pc)(hv:U32 v):Gu.TbOk (lvM t pc v):=by
 unfold lvM Gu.zdi
 refine⟨ht.G,zer ht.P hp,zer ht.A hv,zer ht.S ?_⟩
 have h:=ht.S (Gu.kw pc) (by unfold Gu.kw;omega)
 unfold Gu.lS
 split
 ·split
  ·exact h
  ·exact umod _
 ·exact u0
theorem jE:MR mach where
 dcd:=vG
 dow:=fun pc a b n hi hp ha hb=>zkq hi hp ha hb
 br:=fun pc ht hp=>znR ht pc hp
 va:=fun pc ht=>znS ht pc
 lb:=fun pc tk _ ht hg=>zpn ht pc tk hg
 lv:=fun pc _ ht hp hv=>zpv ht hp hv
theorem zmh:MS mach:=fun{x i} pc a b n h h0 hm=>by
 have hm:(doW i pc a b n).many≠0:=hm
 show sts i=true/\(doW i pc a b n).many=stn i.op/\fits n (doW i pc a b n).pl (stn i.op)=true
 rcases xf i pc a b n with⟨h1,h2,h3,h4⟩|h4
 ·rw[h4]
  exact⟨by unfold sts;exact decide_eq_true ⟨h1,h2⟩,rfl,h3⟩
 ·exfalso
  apply hm
  rcases h4 with⟨_,_,h4⟩|⟨_,h4⟩|⟨_,h4|h4|h4⟩|⟨_,h4⟩|⟨_,_,_,_,h4⟩<;>rw[h4]<;>rfl
theorem zom{Φ:World->Prop}(w:World)(z o:Dg)(h:∀V,Bx V w.heap.size o->Below w.heap.size w V->Φ V):Φ (((w.alloc (.cells (dgl z).toArray 132)).drew).setCells w.heap.size 0 (dgl o)):=by
 obtain⟨h1,h2⟩:=zhR w.drew z o
 exact h _ h1 (((WZ _ w).drew).trans h2)
theorem zmi{w:World}{p:Nat}{i:In}{t:TypeId}(h:w.heap[p]?=some (.cells (ivL i) t (0,0))):w.rangeAt p 0 (ivL i).toList:=fun j v hj=>by
 rw[cell_of_row _ _ _ _ _ _ h,Ai,<-Array.getElem?_toList]
 exact hj
theorem Bx.ins{w:World}{q:Nat}{o:Dg}(h:Bx w q o)(i:In)(k:Nat):Bx ((w.setCells q 2 (ivL i).toList).setCell ⟨q,10,none⟩ (.int .i64 (k:Int))) q {o with i:=i,rd:=k}:=
 Bx.put (o:={o with i:=i}) (Bx.puts h 2 _ (by simp[ivL]) rfl) 10 _ (by omega) rfl
theorem zjI(w:World)(q j:Nat)(l:List Value)(v:Value):w.grownBy ((w.setCells q 2 l).setCell ⟨q,j,none⟩ v) (some q):=zB (zD w q 2 l) (zZ _ q j v)
theorem zjJ(i:In):(ivL i).all (·.oneCell')=true:=(jq i).2.2
theorem zpw(s:Cr)(o:Dg):(namO s o).1.slots=s.slots/\(namO s o).1.tb=s.tb/\(namO s o).1.under=s.under/\(namO s o).2.seq=o.seq/\(namO s o).2.pc=o.pc/\(namO s o).2.i=o.i:=by
 unfold namO
 split<;>exact⟨rfl,rfl,rfl,rfl,rfl,rfl⟩
theorem zon{s:Cr}{o:Dg}(hN:Nms s)(hf:o.rd≠0->s.free≠[])(h0:o.to=0):0<=(namO s o).2.to/\(namO s o).2.to<96:=by
 unfold namO
 split
 ·show 0<=o.to/\o.to<96
  omega
 ·rename_i h
  have h1:=hN.dis.rf
  have h2:=hN.high
  show 0<=s.free.headD 0/\s.free.headD 0<96
  cases hfr:s.free with
  |nil=>exact absurd hfr (hf h)
  |cons a l=>
   rw[hfr]at h1
   have:=h1 a (List.mem_cons_self ..)
   show 0<=a/\a<96
   omega
theorem zhS(M:Mc)(s:Cr)(o:Dg):(gueO M s o).1.under=s.under:=by
 have hw:(wayO M s o).1.under=s.under:=by
  unfold wayO
  split
  ·rfl
  ·split<;>rfl
 unfold gueO
 simp only[]
 split
 ·exact hw
 ·unfold gueL
  simp only[]
  split<;>exact hw
theorem Apt.same{b q:Nat}{s s':Cr}{L L':Sls}(A:Apt b q s L)(ho:¬own b L' q)(h1:L'.m=L.m)(h2:L'.f=L.f)(h3:L'.s=L.s)(h4:L'.r=L.r)(e1:s'.n=s.n)(e2:s'.free=s.free)(e3:s'.slots=s.slots)(e4:s'.scr=s.scr):Apt b q s' L':=
 ⟨ho,by rw[h1,e1];exact A.m,by rw[h2,e2];exact A.f,by rw[h3,e3];exact A.sl,by rw[h4,e4];exact A.r,A.g1,A.g2⟩
theorem yg{w:World}{q:Nat}{o:Dg}(h:Bx w q o):w.rangeAt q 0 (dgl o):=zew h fun i v hi=>by rw[Ai];exact hi
theorem zhT(o:Dg):List.foldl (fun(cs:Array Value) (x:Value×Nat)=>cs.setIfInBounds x.snd x.fst) #[.int .i64 0,.int .u32 0,.int .i64 0,.int .i64 0,.int .i64 0,.int .i64 0,.int .i32 0,.int .i64 0,.int .i64 0,.int .i64 0,.int .i64 0,.int .i64 0,.int .i64 0,.int .u32 0,.bool false,.int .i64 0,.bool false,.int .u32 0,.int .u32 0,.int .i64 0,.int .i64 0,.int .i64 0,.int .u32 0,.int .u32 0,.int .i64 0,.int .u32 0,.bool false,.int .u32 0] (dgl o).zipIdx=(dgl o).toArray:=by kernel_rfl
theorem zkz{Φ P:World->Nat->Prop}(x:∀W p,P W p->Φ W p)(W:World)(p:Nat)(h:P W p):Φ W p:=x W p h
theorem zcj{N:Nat}{w:World}{b:Nat}{s:Cr}{L:Sls}(S:St N w b s L)(K:TakOk s):
  Calls prog 64 #[.pointer (some ⟨b,0,none⟩)] w fun e w'=>e=.returned (.bool (tak1 mach s).2)/\∃L',St N w' b (tak1 mach s).1 L'/\To b w L w' L':=by
 obtain⟨iU,hi,hz0,hz1,hz2⟩:=info_parts zn5
 obtain⟨r,hr⟩:∃r,r=tak1 mach s:=⟨_,rfl⟩
 rw[<-hr]
 have HR:Hid (r=tak1 mach s):=hr
 have HS:Hid (St N w b s L):=S
 have HK:Hid (TakOk s):=K
 obtain⟨a,c,ea,hl0⟩:=S.its.isl
 have k333:w.cell? ⟨b,333,none⟩=some (.slice a s.slots.length c):=(zd S.row (by omega)).trans (congrArg some ea)
 have k0:w.cell? ⟨b,0,none⟩=some (.int .i64 s.win):=(zd S.row (by omega)).trans rfl
 have k41:w.cell? ⟨b,41,none⟩=some (.int .i64 s.tak):=(zd S.row (by omega)).trans rfl
 have EA:Hid (L.s=.slice a s.slots.length c):=ea
 clear S K hr ea hl0
 by_cases hw:s.win<=(s.slots.length:Int)
 ·have CP:Hid (∀W,Calls prog 91 #[.slice a s.slots.length c,.int .i64 s.win,.int .i64 s.tak] W fun e w'=>(∃a c,e=.returned (.tuple #[.slice a 0 c,.bool false]))/\Below W.heap.size W w'):=fun W=>by
   have:=zfu HS.out hw W
   rw[EA.out]at this
   exact this
  have hr:r=(s,false):=by rw[HR.out];unfold tak1;rw[if_pos hw]
  subst hr
  clear HR HK hw EA
  go_enter func64,ntmps64
  go_upto_region 1 with fail
  refine zq (S:=fun w'=>w'.cell? ⟨b,333,none⟩=some (.slice a s.slots.length c)/\w'.cell? ⟨b,0,none⟩=some (.int .i64 s.win)/\w'.cell? ⟨b,41,none⟩=some (.int .i64 s.tak)) [] (by kernel_rfl) (⟨k333,k0,k41⟩) (fun hH=>?_)
  refine tU 0 (.pointer (some ⟨b,0,none⟩)) ?_;go_simp
  refine tU 1 (.pointer (some ⟨b,0,none⟩)) ?_;go_simp
  refine tU 2 (.pointer (some ⟨b,333,none⟩)) ?_;go_simp
  refine tA 3 (.slice a s.slots.length c) ?_;go_simp
  refine tU 4 (.pointer (some ⟨b,0,none⟩)) ?_;go_simp
  refine tU 5 (.pointer (some ⟨b,0,none⟩)) ?_;go_simp
  refine tU 6 (.pointer (some ⟨b,0,none⟩)) ?_;go_simp
  refine tU 7 (.pointer (some ⟨b,0,none⟩)) ?_;go_simp
  refine tS 8 (.int .i64 s.win) rfl (Or.inl ⟨by rfl,by intro wz hSw;have hc:=hSw.2.1;go_simp⟩) hH ?_;go_simp
  refine tU 9 (.pointer (some ⟨b,0,none⟩)) ?_;go_simp
  refine tU 10 (.pointer (some ⟨b,0,none⟩)) ?_;go_simp
  refine tU 11 (.pointer (some ⟨b,3,none⟩)) ?_;go_simp
  refine tU 12 (.pointer (some ⟨b,41,none⟩)) ?_;go_simp
  refine tS 13 (.int .i64 s.tak) rfl (Or.inl ⟨by rfl,by intro wz hSw;have hc:=hSw.2.2;go_simp⟩) hH ?_;go_simp
  refine zC 14 rfl (fun K hK=>?_)
  go_simp
  refine(CP.out _).mono ?_
  rintro e V1 ⟨⟨a1,c1,rfl⟩,hk⟩
  have HK:Hid (Below w.heap.size w V1):=zg hk (Aa _)
  go_wp2_with fail
  refine hK.out _ _ (⟨zn hk (hH.1),zn hk (hH.2.1),zn hk (hH.2.2)⟩) (fun hN=>?_)
  clear hK K hH
  have hH:=hN
  clear hN
  try go_simp
  refine tU 15 (.tuple #[.slice a1 0 c1,.bool false]) ?_;go_simp
  refine tU 16 (.slice a1 0 c1) ?_;go_simp
  refine tU 17 (.bool false) ?_;go_simp
  refine tU 18 (.slice a1 0 c1) ?_;go_simp
  refine tU 19 (.bool false) ?_;go_simp
  refine zE (by kernel_rfl) ?_ _
  go_wp2
  go_ret
  exact⟨rfl,L,HS.out.below HK.out,ze L HK.out⟩
 ·have CP:Hid (∀W,Below w.heap.size w W->Calls prog 91 #[.slice a s.slots.length c,.int .i64 s.win,.int .i64 s.tak] W fun e w'=>(∃a c,e=.returned (.tuple #[.slice a (s.slots++[(s.tak,false)]).length c,.bool true])/\LC w' a (s.slots++[(s.tak,false)]).length c 2 (scs (s.slots++[(s.tak,false)]))/\FarC W.heap.size a)/\Below W.heap.size W w'):=fun W hW=>by
   have:=zpr HS.out (by omega) HK.out.first (by have:=HK.out.lenS;omega) W hW
   rw[EA.out]at this
   exact this
  obtain⟨sl,hsl⟩:∃sl,sl=s.slots++[(s.tak,false)]:=⟨_,rfl⟩
  have HSL:Hid (sl=s.slots++[(s.tak,false)]):=hsl
  rw[<-hsl]at CP
  have HW:Hid (¬s.win<=(s.slots.length:Int)):=hw
  clear hw hsl EA
  go_enter func64,ntmps64
  go_upto_region 1 with fail
  refine zq (S:=fun w'=>w'.cell? ⟨b,333,none⟩=some (.slice a s.slots.length c)/\w'.cell? ⟨b,0,none⟩=some (.int .i64 s.win)/\w'.cell? ⟨b,41,none⟩=some (.int .i64 s.tak)) [] (by kernel_rfl) (⟨k333,k0,k41⟩) (fun hH=>?_)
  refine tU 0 (.pointer (some ⟨b,0,none⟩)) ?_;go_simp
  refine tU 1 (.pointer (some ⟨b,0,none⟩)) ?_;go_simp
  refine tU 2 (.pointer (some ⟨b,333,none⟩)) ?_;go_simp
  refine tA 3 (.slice a s.slots.length c) ?_;go_simp
  refine tU 4 (.pointer (some ⟨b,0,none⟩)) ?_;go_simp
  refine tU 5 (.pointer (some ⟨b,0,none⟩)) ?_;go_simp
  refine tU 6 (.pointer (some ⟨b,0,none⟩)) ?_;go_simp
  refine tU 7 (.pointer (some ⟨b,0,none⟩)) ?_;go_simp
  refine tS 8 (.int .i64 s.win) rfl (Or.inl ⟨by rfl,by intro wz hSw;have hc:=hSw.2.1;go_simp⟩) hH ?_;go_simp
  refine tU 9 (.pointer (some ⟨b,0,none⟩)) ?_;go_simp
  refine tU 10 (.pointer (some ⟨b,0,none⟩)) ?_;go_simp
  refine tU 11 (.pointer (some ⟨b,3,none⟩)) ?_;go_simp
  refine tU 12 (.pointer (some ⟨b,41,none⟩)) ?_;go_simp
  refine tS 13 (.int .i64 s.tak) rfl (Or.inl ⟨by rfl,by intro wz hSw;have hc:=hSw.2.2;go_simp⟩) hH ?_;go_simp
  refine zC 14 rfl (fun K hK=>?_)
  go_simp
  refine(CP.out _ ((WZ _ _).drew)).mono ?_
  rintro e V1 ⟨⟨a1,c1,rfl,hl1,hf1⟩,hk⟩
  have HK1:Hid (Below w.heap.size w V1):=zg hk (Aa _)
  have HL1:Hid (LC V1 a1 sl.length c1 2 (scs sl)/\FarC w.heap.size a1):=⟨hl1,hf1⟩
  clear hl1 hf1
  go_wp2_with fail
  refine hK.out _ _ (⟨zn hk (hH.1),zn hk (hH.2.1),zn hk (hH.2.2)⟩) (fun hN=>?_)
  clear hK K hH
  have hH:=hN
  clear hN
  try go_simp
  refine tU 15 (.tuple #[.slice a1 sl.length c1,.bool true]) ?_;go_simp
  refine tU 16 (.slice a1 sl.length c1) ?_;go_simp
  refine tU 17 (.bool true) ?_;go_simp
  refine tU 18 (.slice a1 sl.length c1) ?_;go_simp
  refine tU 19 (.bool true) ?_;go_simp
  refine zE (by kernel_rfl) ?_ _
  have S1:Hid (St N V1 b s L):=HS.out.below HK1.out
  have T1:Hid (To b w L V1 L):=ze L HK1.out
  have HF:Hid (∀x,a1=some x->¬own b L x.block):=qV HS.out (Aa _) HL1.out.2
  have HL:Hid (LC V1 a1 sl.length c1 2 (scs sl)):=HL1.out.1
  clear hH k333 k0 k41 CP HK1 HL1 HS
  have k41:V1.cell? ⟨b,41,none⟩=some (.int .i64 s.tak):=(zd S1.out.row (by omega)).trans rfl
  have k337:V1.cell? ⟨b,337,none⟩=some (.int .u32 s.fro):=(zd S1.out.row (by omega)).trans rfl
  go_upto_region 4 with fail
  refine zq (S:=fun w'=>w'.cell? ⟨b,41,none⟩=some (.int .i64 s.tak)/\w'.cell? ⟨b,337,none⟩=some (.int .u32 s.fro)) [11] (by kernel_rfl) (⟨k41,k337⟩) (fun hH=>?_)
  refine tU 0 (.pointer (some ⟨b,0,none⟩)) ?_;go_simp
  refine tU 1 (.pointer (some ⟨b,0,none⟩)) ?_;go_simp
  refine tU 2 (.pointer (some ⟨b,3,none⟩)) ?_;go_simp
  refine tU 3 (.pointer (some ⟨b,41,none⟩)) ?_;go_simp
  refine tA 4 (.int .i64 s.tak) ?_;go_simp
  refine tU 5 (.pointer (some ⟨b,0,none⟩)) ?_;go_simp
  refine tU 6 (.pointer (some ⟨b,0,none⟩)) ?_;go_simp
  refine tU 7 (.pointer (some ⟨b,337,none⟩)) ?_;go_simp
  refine tB 8 (.int .u32 s.fro) ?_;go_simp
  refine tU 9 (.agg #[.int .i64 s.tak,.int .u32 s.fro,.int .i64 0,.int .i64 0,.int .i64 0,.int .i64 0,.int .i32 0,.int .i64 0,.int .i64 0,.int .i64 0,.int .i64 0,.int .i64 0,.int .i64 0,.int .u32 0,.bool false,.int .i64 0,.bool false,.int .u32 0,.int .u32 0,.int .i64 0,.int .i64 0,.int .i64 0,.int .u32 0,.int .u32 0,.int .i64 0,.int .u32 0,.bool false,.int .u32 0]) ?_;go_simp
  refine zC 10 rfl (fun K hK=>?_)
  go_simp
  refine hK.out _ _ (⟨jD _ (hH.1),jD _ (hH.2)⟩) (fun hN=>?_)
  clear hK K hH
  have hH:=hN
  clear hN
  try go_simp
  refine zL 11 rfl (fun K hK=>?_)
  rw[if_pos (by rfl)]
  refine wp_store_mid 132 _ _ rfl V1.heap.size 0 (dgl ⟨s.tak,s.fro,zin,0,0,0,0,0,0,0,false,0,false,zcm⟩).toArray rfl rfl (zci V1.drew dg0) (zK _) (qY _) ?_
  refine hK.out _ _ ?_
  clear hK K
  try go_simp
  refine zE (by kernel_rfl) ?_ _
  refine zom (Φ:=fun W=>Exit.then _ _ _ _ W) V1 dg0 ⟨s.tak,s.fro,zin,0,0,0,0,0,0,0,false,0,false,zcm⟩ ?_
  intro V2 b2 k2
  have S2:Hid (St N V2 b s L):=S1.out.below k2
  have B2:Hid (Bx V2 V1.heap.size ⟨s.tak,s.fro,zin,0,0,0,0,0,0,0,false,0,false,zcm⟩):=b2
  have T2:Hid (To b w L V2 L):=T1.out.trans (ze L k2)
  have A2:Hid (Apt b V1.heap.size s L):=S1.out.apt (Aa _)
  have HL2:Hid (LC V2 a1 sl.length c1 2 (scs sl)):=HL.out.below (Aa _) k2
  have HA:Hid (∀g,(Ag a1 sl.length c1).ownBlock=some g->0<sl.length->g≠V1.heap.size):=fun g hg h0=>by
   cases a1 with
   |none=>cases hg
   |some x=>
    obtain⟨g',o',e,hlt,_⟩:=HL.out.ad x rfl h0
    subst e
    have:g'=g:=Ae hg
    omega
  have HQ:Hid (w.heap.size<=V1.heap.size):=T1.out.size
  clear b2 k2 S1 T1 HL k41 k337 hH
  generalize V1.heap.size=q at*
  obtain⟨i,hi⟩:∃i,i=(rdI mach s).1:=⟨_,rfl⟩
  obtain⟨ca,hca⟩:∃ca,ca=(rdI mach s).2:=⟨_,rfl⟩
  have CR:Hid (Calls prog 92 #[.pointer (some ⟨b,0,none⟩),.int .i64 s.tak] V2 fun e w'=>e=.returned (.tuple #[ivI i,.int .i64 ca])/\Below V2.heap.size V2 w'):=by
   rw[hi,hca]
   exact zhu S2.out HK.out.ask (by have:=HK.out.lenA;omega) HK.out.fro
  have HI:Hid (i=(rdI mach s).1/\ca=(rdI mach s).2):=⟨hi,hca⟩
  clear hi hca
  have c0:V2.cell? ⟨q,0,none⟩=some (.int .i64 s.tak):=zl B2.out 0 rfl
  go_wp2_with fail
  refine CR.out.mono ?_
  rintro e V3 ⟨rfl,k3⟩
  go_upto_region 6 with fail
  refine Wi.zj (Φ:=fun W=>Code.wp _ _ _ _ W) ?_
  intro V4 h4 k4
  have k34:=Below.trans k3 (k4.mono k3.size)
  have S4:Hid (St N V4 b s L):=S2.out.below k34
  have B4:Hid (Bx V4 q ⟨s.tak,s.fro,zin,0,0,0,0,0,0,0,false,0,false,zcm⟩):=B2.out.below k34
  have T4:Hid (To b w L V4 L):=T2.out.trans (ze L k34)
  have HL4:Hid (LC V4 a1 sl.length c1 2 (scs sl)):=HL2.out.below (Aa _) k34
  have R4:Hid (V4.rangeAt V3.heap.size 0 (ivL i).toList):=zmi h4
  have hqp:q≠V3.heap.size:=by have:=B2.out.lt;have:=k3.size;omega
  clear k34 h4 k4 k3 S2 B2 T2 HL2 c0 CR
  generalize V3.heap.size=p at*
  have CG:=fun W=>zfj i W
  obtain⟨k,hk⟩:∃k,k=gvs i:=⟨_,rfl⟩
  rw[<-hk]at CG
  have HKK:Hid (k=gvs i):=hk
  clear hk
  refine zq (S:=fun w'=>w'.rangeAt p 0 ((ivL i).toList)) [6] (by kernel_rfl) (R4.out) (fun hH=>?_)
  refine tS 0 (.agg ((ivL i).toList).toArray) rfl (Ab (by rfl) 78 _ rfl _ _ rfl ((ivL i).toList) _ (fun wz hSw=>hSw) underlying78 rfl (qK _)) hH ?_;go_simp
  refine tS 1 (.agg ((ivL i).toList).toArray) rfl (Ab (by rfl) 78 _ rfl _ _ rfl ((ivL i).toList) _ (fun wz hSw=>hSw) underlying78 rfl (qK _)) hH ?_;go_simp
  refine zC 2 rfl (fun K hK=>?_)
  go_simp
  refine(CG _).mono ?_
  rintro e V5 ⟨rfl,k5⟩
  have HK5:Hid (Below V4.heap.size V4 V5):=zg k5 (Aa _)
  go_wp2_with fail
  refine hK.out _ _ (xg k5 hH) (fun hN=>?_)
  clear hK K hH
  have hH:=hN
  clear hN
  try go_simp
  have B5:Hid (Bx V5 q ⟨s.tak,s.fro,zin,0,0,0,0,0,0,0,false,0,false,zcm⟩):=B4.out.below HK5.out
  refine tU 3 (.pointer (some ⟨q,2,none⟩)) ?_;go_simp
  refine zC 4 rfl (fun K hK=>?_)
  rw[if_pos (by rfl)]
  refine wp_store_mid 78 _ _ rfl q 2 (ivL i) rfl rfl (B5.out.there 2 5 (by omega)) ((jq i).1) (zjJ i) ?_
  refine hK.out _ _ (zn3 hH (fun h=>hqp h.symm)) (fun hN=>?_)
  clear hK K hH
  have hH:=hN
  clear hN
  try go_simp
  refine tU 5 (.pointer (some ⟨q,10,none⟩)) ?_;go_simp
  have B5b:Hid (Bx (V5.setCells q 2 (ivL i).toList) q ⟨s.tak,s.fro,i,0,0,0,0,0,0,0,false,0,false,zcm⟩):=B5.out.puts 2 _ (by simp[ivL]) rfl
  have c10:=zl B5b.out 10 (v:=.int .i64 0) rfl
  have f10:=qw B5b.out 10
  refine zL 6 rfl (fun K hK=>?_)
  go_simp
  refine hK.out _ _ ?_
  clear hK K
  try go_simp
  refine zE (by kernel_rfl) ?_ _
  have hg:=zjI V5 q 10 (ivL i).toList (.int .i64 (k:Int))
  have S6:Hid (St N ((V5.setCells q 2 (ivL i).toList).setCell ⟨q,10,none⟩ (.int .i64 (k:Int))) b s L):=(S4.out.below HK5.out).other hg A2.out
  have B6:Hid (Bx ((V5.setCells q 2 (ivL i).toList).setCell ⟨q,10,none⟩ (.int .i64 (k:Int))) q ⟨s.tak,s.fro,i,0,0,0,k,0,0,0,false,0,false,zcm⟩):=B5.out.ins i k
  have T6:Hid (Toq b q w L ((V5.setCells q 2 (ivL i).toList).setCell ⟨q,10,none⟩ (.int .i64 (k:Int))) L):=(T4.out.trans (ze L HK5.out)).q.trans (zax hg)
  have HL6:Hid (LC ((V5.setCells q 2 (ivL i).toList).setCell ⟨q,10,none⟩ (.int .i64 (k:Int))) a1 sl.length c1 2 (scs sl)):=qH (HL4.out.below (Aa _) HK5.out) hg.size fun h0 x hx=>hg.block _ (by
   obtain⟨g',o',e,hlt,_⟩:=(HL4.out.below (Aa _) HK5.out).ad x hx h0
   subst e
   exact hlt) (fun e=>HA.out x.block (by rw[hx];rfl) h0 (Ae e))
  clear hg S4 B4 T4 HL4 R4 hqp HK5 B5 B5b c10 f10 hH CG
  generalize (V5.setCells q 2 (ivL i).toList).setCell ⟨q,10,none⟩ (.int .i64 (k:Int))=V6 at*
  have c10:V6.cell? ⟨q,10,none⟩=some (.int .i64 (k:Int)):=zl B6.out 10 rfl
  obtain⟨fa,fc,ef,hfl⟩:=S6.out.its.ifr
  have k140:V6.cell? ⟨b,140,none⟩=some (.slice fa s.free.length fc):=(zd S6.out.row (by omega)).trans (congrArg some ef)
  clear hfl ef
  by_cases hno:k≠0/\s.free=[]
  ·have hr:r=(s,false):=by
    rw[HR.out]
    unfold tak1
    rw[if_neg (by have:=HW.out;omega),<-HI.out.1,<-HKK.out,if_pos hno]
   subst hr
   have hb0:((k:Int) != 0)=true:=by simp[hno.1]
   have k140':V6.cell? ⟨b,140,none⟩=some (.slice fa 0 fc):=by rw[k140,hno.2];rfl
   clear k140 hno HR HI
   go_wp2
   go_ret
   exact⟨rfl,L,S6.out,Toq.to (To.refl b w L) HQ.out T6.out⟩
  ·have HR2:Hid (r=(let m:=namO (askO {s with slots:=sl,tak:=s.tak+1} (⟨s.tak,s.fro,i,0,0,0,k,0,0,0,false,0,false,zcm⟩:Dg)) (⟨s.tak,s.fro,i,0,0,0,k,0,0,0,false,0,false,zcm⟩:Dg);let t:=if ca≠0 then yo m.1 m.2 ca else gueO mach m.1 m.2;({t.1 with under:=t.1.under++[t.2]},true))):=by
    have e1:newO mach s=(⟨s.tak,s.fro,i,0,0,0,k,0,0,0,false,0,false,zcm⟩:Dg):=by unfold newO;rw[HKK.out,HI.out.1]
    show _=_
    rw[HR.out]
    unfold tak1
    rw[if_neg (by have:=HW.out;omega),<-HI.out.1,<-HKK.out,if_neg hno,e1,<-HI.out.2,<-HSL.out]
   have hfr:k≠0->s.free≠[]:=fun h h'=>hno ⟨h,h'⟩
   have HIn:Hid (k<32/\ra i<32/\rb i<32/\-2147483648<=i.im/\i.im<=2147483647):=by
    have h:=(zey jE s).1
    rw[<-HI.out.1]at h
    rw[HKK.out]
    rcases h with h|h
    ·rw[h];exact(by decide:gvs zin<32/\ra zin<32/\rb zin<32/\-2147483648<=zin.im/\zin.im<=2147483647)
    ·refine⟨?_,?_,?_,h.i0,h.i1⟩
     ·unfold gvs;have:=h.lr;split<;>omega
     ·unfold ra;have:=h.l1;split<;>omega
     ·unfold rb;have:=h.l2;split<;>omega
   have k333:V6.cell? ⟨b,333,none⟩=some L.s:=(zd S6.out.row (by omega)).trans rfl
   have f333:=S6.out.frozen 333
   clear HR hno
   have HFR:Hid (k≠0->s.free≠[]):=hfr
   have key:s.free.length=0\/((s.free.length:Int)==0)=false:=by
    by_cases h:s.free.length=0
    ·exact .inl h
    ·refine .inr ?_
     simp
     intro h'
     rw[h']at h
     exact h rfl
   by_cases h0:k=0
   case' pos=>
    have c10':V6.cell? ⟨q,10,none⟩=some (.int .i64 0):=by rw[c10,h0];rfl
    clear c10 key hfr h0
   case' neg=>
    have hb0:((k:Int) != 0)=true:=by simp[h0]
    have hn0:((s.free.length:Int)==0)=false:=key.resolve_left fun h=>hfr h0 (Ad h)
    clear key hfr
    obtain⟨fn,hfn⟩:∃fn,fn=s.free.length:=⟨_,rfl⟩
    rw[<-hfn]at k140 hn0
    clear hfn h0
   all_goals
    go_upto_region 10 with fail
    obtain⟨s7,t7⟩:=S6.out.setSlots HL6.out HF.out
    have S7:Hid (St N (V6.setCell ⟨b,333,none⟩ (.slice a1 sl.length c1)) b {s with slots:=sl} {L with s:=.slice a1 sl.length c1}):=s7
    have B7:Hid (Bx (V6.setCell ⟨b,333,none⟩ (.slice a1 sl.length c1)) q (⟨s.tak,s.fro,i,0,0,0,k,0,0,0,false,0,false,zcm⟩:Dg)):=B6.out.to t7 A2.out.o
    have T7:Hid (Toq b q w L (V6.setCell ⟨b,333,none⟩ (.slice a1 sl.length c1)) {L with s:=.slice a1 sl.length c1}):=T6.out.trans t7.q
    have A7:Hid (Apt b q {s with slots:=sl} {L with s:=.slice a1 sl.length c1}):=⟨A2.out.o,A2.out.m,A2.out.f,HA.out,A2.out.r,A2.out.g1,A2.out.g2⟩
    clear s7 t7 S6 B6 T6 HL6 HF k333 f333 k140
    generalize V6.setCell ⟨b,333,none⟩ (.slice a1 sl.length c1)=V7 at*
    generalize ({L with s:=.slice a1 sl.length c1}:Sls)=L7 at*
    have k41:V7.cell? ⟨b,41,none⟩=some (.int .i64 s.tak):=(zd S7.out.row (by omega)).trans rfl
    have f41:=S7.out.frozen 41
    have t0:=HK.out.tak0
    have t1:=HK.out.tak1
    go_upto_region 11 with fail
    obtain⟨s8,t8⟩:=S7.out.setTak (s.tak+1)
    have S8:Hid (St N (V7.setCell ⟨b,41,none⟩ (.int .i64 (s.tak+1))) b {s with slots:=sl,tak:=s.tak+1} L7):=s8
    have B8:Hid (Bx (V7.setCell ⟨b,41,none⟩ (.int .i64 (s.tak+1))) q (⟨s.tak,s.fro,i,0,0,0,k,0,0,0,false,0,false,zcm⟩:Dg)):=B7.out.to t8 A7.out.o
    have T8:Hid (Toq b q w L (V7.setCell ⟨b,41,none⟩ (.int .i64 (s.tak+1))) L7):=T7.out.trans t8.q
    have A8:Hid (Apt b q {s with slots:=sl,tak:=s.tak+1} L7):=⟨A7.out.o,A7.out.m,A7.out.f,A7.out.sl,A7.out.r,A7.out.g1,A7.out.g2⟩
    clear s8 t8 S7 B7 T7 A7 k41 f41 t0 t1 HA
    generalize V7.setCell ⟨b,41,none⟩ (.int .i64 (s.tak+1))=V8 at*
    have CA:Hid (Calls prog 94 #[.pointer (some ⟨b,0,none⟩),dgv (⟨s.tak,s.fro,i,0,0,0,k,0,0,0,false,0,false,zcm⟩:Dg)] V8 fun e w'=>e=.returned (.tuple #[])/\∃L',St N w' b (askO {s with slots:=sl,tak:=s.tak+1} (⟨s.tak,s.fro,i,0,0,0,k,0,0,0,false,0,false,zcm⟩:Dg)) L'/\To b V8 L7 w' L'/\L'.m=L7.m/\L'.f=L7.f/\L'.s=L7.s/\L'.r=L7.r):=zjx S8.out _ (by have:=HK.out.lenA;show s.asked.length<=_;omega)
    obtain⟨s9,hs9⟩:∃s9:Cr,s9=askO {s with slots:=sl,tak:=s.tak+1} (⟨s.tak,s.fro,i,0,0,0,k,0,0,0,false,0,false,zcm⟩:Dg):=⟨_,rfl⟩
    have HN9:Hid (Nms s9):=by rw[hs9];exact⟨HK.out.nms.low,HK.out.nms.high,HK.out.nms.dis⟩
    have HF9:Hid (s9.free=s.free/\s9.slots=sl/\s9.tb=s.tb/\s9.under=s.under/\s9.n=s.n/\s9.scr=s.scr):=by rw[hs9];exact⟨rfl,rfl,rfl,rfl,rfl,rfl⟩
    rw[<-hs9]at CA HR2
    clear hs9
    go_wp2_with(refine Af rfl 132 _ rfl q 0 rfl (dgl (⟨s.tak,s.fro,i,0,0,0,k,0,0,0,false,0,false,zcm⟩:Dg)) _ (yg B8.out) underlying132 rfl (zK _) ?_)
    refine CA.out.mono ?_
    rintro e V9 ⟨rfl,L9,u1,u2,u3,u4,u5,u6⟩
    have S9:Hid (St N V9 b s9 L9):=u1
    have B9:Hid (Bx V9 q (⟨s.tak,s.fro,i,0,0,0,k,0,0,0,false,0,false,zcm⟩:Dg)):=B8.out.to u2 A8.out.o
    have T9:Hid (Toq b q w L V9 L9):=T8.out.trans u2.q
    have A9:Hid (Apt b q s9 L9):=A8.out.same (B8.out.not u2 A8.out.o) u3 u4 u5 u6 HF9.out.2.2.2.2.1 HF9.out.1 HF9.out.2.1 HF9.out.2.2.2.2.2
    clear u1 u2 u3 u4 u5 u6 S8 B8 T8 A8 CA
    go_wp2_with fail
    refine(zhz S9.out B9.out A9.out HN9.out HIn.out.1 HIn.out.2.1 HIn.out.2.2.1 (by rw[HF9.out.1];exact HFR.out)).mono ?_
    rintro e V10 ⟨rfl,L10,u1,u2,u3,u4⟩
    have S10:Hid (St N V10 b (namO s9 (⟨s.tak,s.fro,i,0,0,0,k,0,0,0,false,0,false,zcm⟩:Dg)).1 L10):=u1
    have B10:Hid (Bx V10 q (namO s9 (⟨s.tak,s.fro,i,0,0,0,k,0,0,0,false,0,false,zcm⟩:Dg)).2):=u2
    have A10:Hid (Apt b q (namO s9 (⟨s.tak,s.fro,i,0,0,0,k,0,0,0,false,0,false,zcm⟩:Dg)).1 L10):=u3
    have T10:Hid (Toq b q w L V10 L10):=T9.out.trans u4
    obtain⟨f1,f2,f3,f4,f5,f6⟩:=zpw s9 (⟨s.tak,s.fro,i,0,0,0,k,0,0,0,false,0,false,zcm⟩:Dg)
    have hto:=zon (s:=s9) (o:=(⟨s.tak,s.fro,i,0,0,0,k,0,0,0,false,0,false,zcm⟩:Dg)) HN9.out (by rw[HF9.out.1];exact HFR.out) rfl
    obtain⟨m1,hm1⟩:∃m1,m1=(namO s9 (⟨s.tak,s.fro,i,0,0,0,k,0,0,0,false,0,false,zcm⟩:Dg)).1:=⟨_,rfl⟩
    obtain⟨m2,hm2⟩:∃m2,m2=(namO s9 (⟨s.tak,s.fro,i,0,0,0,k,0,0,0,false,0,false,zcm⟩:Dg)).2:=⟨_,rfl⟩
    have HR3:Hid (r=(let t:=if ca≠0 then yo m1 m2 ca else gueO mach m1 m2;({t.1 with under:=t.1.under++[t.2]},true))):=by show _=_;rw[HR2.out,hm1,hm2]
    rw[<-hm1]at S10 A10 f1 f2 f3
    rw[<-hm2]at B10 f4 f5 f6 hto
    have HM:Hid (m1.slots=sl/\m1.tb=s.tb/\m1.under=s.under/\m2.seq=s.tak/\m2.pc=s.fro/\m2.i=i/\0<=m2.to/\m2.to<96):=⟨f1.trans HF9.out.2.1,f2.trans HF9.out.2.2.1,f3.trans HF9.out.2.2.2.1,f4,f5,f6,hto.1,hto.2⟩
    clear u1 u2 u3 u4 S9 B9 A9 T9 HN9 HR2 hm1 hm2 f1 f2 f3 f4 f5 f6 hto HF9 HFR
    by_cases hc:ca=0
    case' pos=>
     have hc':(ca != 0)=false:=by simp[hc]
     obtain⟨t1,ht1⟩:∃t1,t1=gueO mach m1 m2:=⟨_,rfl⟩
     have HR4:Hid (r=({t1.1 with under:=t1.1.under++[t1.2]},true)):=by show _=_;rw[HR3.out,ht1];simp only[hc,ne_eq,not_true_eq_false,if_false]
     have CGu:Hid (∀W,W=V10->Calls prog 97 #[.pointer (some ⟨b,0,none⟩),.pointer (some ⟨q,0,none⟩)] W fun e w'=>e=.returned (.tuple #[])/\∃L',St N w' b t1.1 L'/\Bx w' q t1.2/\Apt b q t1.1 L'/\Toq b q V10 L10 w' L'):=fun W hW=>by
      subst hW
      rw[ht1]
      exact zfz S10.out B10.out A10.out (by rw[HM.out.2.1];exact HK.out.tb) (by rw[HM.out.2.2.2.2.1];exact HK.out.fro) (by rw[HM.out.2.2.2.2.2.1];exact HIn.out.2.2.2.1) (by rw[HM.out.2.2.2.2.2.1];exact HIn.out.2.2.2.2) HM.out.2.2.2.2.2.2.1 HM.out.2.2.2.2.2.2.2
     have HU:Hid (t1.1.under=s.under):=by show _=_;rw[ht1,zhS,HM.out.2.2.1]
     clear ht1 HR3
     go_wp2_with fail
     refine(CGu.out _ rfl).mono ?_
     rintro e V ⟨rfl,L11,u1,u2,u3,u4⟩
     have SV:Hid (St N V b t1.1 L11):=u1
     have BV:Hid (Bx V q t1.2):=u2
     have TV:Hid (Toq b q w L V L11):=T10.out.trans u4
     have HNO:Hid (¬own b L11 q):=u3.o
     clear u1 u2 u4 u3 S10 B10 A10 T10 CGu HM
    case' neg=>
     have hc':(ca != 0)=true:=by simp[hc]
     obtain⟨t1,ht1⟩:∃t1,t1=yo m1 m2 ca:=⟨_,rfl⟩
     have HR4:Hid (r=({t1.1 with under:=t1.1.under++[t1.2]},true)):=by show _=_;rw[HR3.out,ht1];simp only[hc,ne_eq,not_false_eq_true,if_true]
     have CGu:Hid (∀W,W=V10->Calls prog 96 #[.pointer (some ⟨b,0,none⟩),.pointer (some ⟨q,0,none⟩),.int .i64 ca] W fun e w'=>e=.returned (.tuple #[])/\∃L',St N w' b t1.1 L'/\Bx w' q t1.2/\Toq b q V10 L10 w' L'):=fun W hW=>by
      subst hW
      rw[ht1]
      exact zhy S10.out B10.out A10.out ca s.slots.length (by rw[HM.out.1,HM.out.2.2.2.1,HSL.out];exact zhN HK.out.low) (by rw[HM.out.1,HSL.out];have:=HK.out.lenS;simp;omega)
     have HU:Hid (t1.1.under=s.under):=by show _=_;rw[ht1];exact HM.out.2.2.1
     have HNB:Hid (¬own b L10 q):=A10.out.o
     clear ht1 HR3
     go_wp2_with fail
     refine(CGu.out _ rfl).mono ?_
     rintro e V ⟨rfl,L11,u1,u2,u4⟩
     have SV:Hid (St N V b t1.1 L11):=u1
     have BV:Hid (Bx V q t1.2):=u2
     have TV:Hid (Toq b q w L V L11):=T10.out.trans u4
     have HNO:Hid (¬own b L11 q):=fun h=>by
      rcases u4.fresh q h with h|h
      ·exact HNB.out h
      ·have:=B10.out.lt;omega
     clear u1 u2 u4 S10 B10 A10 T10 CGu HM
    all_goals
     have hnq:L11.u.ownBlock≠some q:=fun h=>HNO.out (.inr (.inr (.inl h)))
     have hlen:t1.1.under.length<=1000:=by rw[HU.out];exact HK.out.lenU
     obtain⟨t2,ht2⟩:∃t2,t2=t1.2:=⟨_,rfl⟩
     obtain⟨t0,ht0⟩:∃t0,t0=t1.1:=⟨_,rfl⟩
     rw[<-ht2]at BV
     rw[<-ht0]at SV hlen
     rw[<-ht2,<-ht0]at HR4
     clear ht2 ht0 HU
     go_upto_region 16 with fail
     obtain⟨a5,c5,ea⟩:=SV.out.its.iu.slice
     have kA:V.cell? ⟨b,334,none⟩=some (.slice a5 (t0.under.length) c5):=(zd SV.out.row (by omega)).trans (congrArg some ea)
     have HU:Hid (Us V 132 28 (.slice a5 (t0.under.length) c5) (t0.under.length) (flat dgl t0.under)):=by have:=SV.out.its.iu;rw[ea]at this;exact this
     have hnb:(Ag a5 (t0.under.length) c5).ownBlock≠some b:=fun h=>(SV.out.apart.2.1 b (by rw[ea];exact h)).2.2 rfl
     have hlt0:∀g,(Ag a5 (t0.under.length) c5).ownBlock=some g->g<V.heap.size:=fun g h=>SV.out.its.lt (.inr (.inl (by rw[ea];exact h)))
     refine zq (S:=fun w'=>w'.cell? ⟨b,334,none⟩=some (.slice a5 (t0.under.length) c5)/\w'.rangeAt q 0 (dgl t2)) [10] (by kernel_rfl) (⟨kA,yg BV.out⟩) (fun hH=>?_)
     refine tU 0 (.pointer (some ⟨b,0,none⟩)) ?_;go_simp
     refine tU 1 (.pointer (some ⟨b,0,none⟩)) ?_;go_simp
     refine tU 2 (.pointer (some ⟨b,0,none⟩)) ?_;go_simp
     refine tU 3 (.pointer (some ⟨b,334,none⟩)) ?_;go_simp
     refine tA 4 (.slice a5 (t0.under.length) c5) ?_;go_simp
     refine tS 5 (.agg (dgl t2).toArray) rfl (Ab (by rfl) 132 _ rfl _ _ rfl (dgl t2) _ (fun wz hSw=>hSw.2) underlying132 rfl (zK _)) hH ?_;go_simp
     refine zC 6 rfl (fun K hK=>?_)
     go_simp
     rw[zhT]
     refine hK.out _ _ (⟨jD _ (hH.1),zcd _ (hH.2)⟩) (fun hN=>?_)
     clear hK K hH
     have hH:=hN
     clear hN
     try go_simp
     refine zC 7 rfl (fun K hK=>?_)
     rw[if_pos (by rfl)]
     refine qP _ _ 63 rfl 132 iU _ 28 192 underlying63 hi hz0 hz1 hz2 rfl (by decide) _ (t0.under.length) _ rfl (HU.out.below ((WZ _ _).drew.alloc (Aa _) _)) V.heap.size (dgl t2) rfl rfl (fun j u hj=>jO (w:=V.drew) j u hj) (za9 _) (by omega) (by omega) ?_
     intro v1 w1 hU1 hG1 hF1
     obtain⟨p1,c1,rfl⟩:=hU1.slice
     have fA:w1.frozen? ⟨b,334,none⟩=false:=frozen_of_row _ _ _ _ _ ((hG1.block b (by have:=SV.out.lt;simp;omega) (fun h=>hnb h.symm)).trans ((Below.heap_alloc _ _ _ SV.out.lt).trans SV.out.row))
     have HU1:Hid (Us w1 132 28 (.slice p1 ((t0.under.length)+1) c1) ((t0.under.length)+1) (flat dgl t0.under++dgl t2)):=hU1
     have HG1:Hid (V.grownBy w1 L11.u.ownBlock):=by rw[ea];exact qG (jr hG1 (fun g hg=>hlt0 g hg))
     have HF1:Hid (∀g,(Ag p1 ((t0.under.length)+1) c1).ownBlock=some g->L11.u.ownBlock=some g\/V.heap.size<=g):=fun g hg=>(hF1 g hg).imp (fun h=>by rw[ea];exact h) (fun h=>Ak (by simp) h)
     refine hK.out _ _ (⟨zae hG1 (hH.1) (hnb),zks hG1 (hH.2) (by rw[<-ea];exact hnq)⟩) (fun hN=>?_)
     clear hK K hH
     have hH:=hN
     clear hN
     try go_simp
     have cA:=hH.1
     clear hU1 hG1 hF1 HU hnb hlt0 kA
     refine tU 8 (.pointer (some ⟨b,0,none⟩)) ?_;go_simp
     refine tU 9 (.pointer (some ⟨b,334,none⟩)) ?_;go_simp
     refine zL 10 rfl (fun K hK=>?_)
     go_simp
     refine hK.out _ _ ?_
     clear hK K
     try go_simp
     refine zE (by kernel_rfl) ?_ _
     obtain⟨S1,T1⟩:=St.appU SV.out (t2) HU1.out HG1.out HF1.out
     clear HU1 HG1 HF1 hH cA fA
     generalize w1.setCell ⟨b,334,none⟩ (.slice p1 ((t0.under.length)+1) c1)=W1 at*
     generalize Ag p1 ((t0.under.length)+1) c1=v1 at*
     have T12:=TV.out.trans T1.q
     clear T1 SV TV BV
     go_wp2
     go_ret
     have HE:=HR4.out
     refine⟨by rw[HE];rfl,_,by rw[HE];exact S1,Toq.to (To.refl b w L) HQ.out T12⟩
end Go.Proofs.YtpiohehijkpghacGreatDoor.Co
