/- A core that guesses: the program. -/
import Derived.Test.YtpiohehijkpghabGreatDoorS36
import Derived.Test.YtpiohehijkpghabGreatDoorS35
import Derived.Test.YtpiohehijkpghabGreatDoorS09
set_option maxRecDepth 20000
set_option maxHeartbeats 1000000
set_option linter.unusedSimpArgs false
set_option linter.unusedVariables false
open Go.Proofs.Tryz
namespace Go.Proofs.YtpiohehijkpghabGreatDoor.Co
open Go.RowKit
open Hy
open Wi Od Re.Hy
open Gu.Hy (Tb tcs)
theorem xU{N:Nat}{w:World}{b:Nat}{s:Cr}{L:Sls}(S:St N w b s L):Calls prog 48 #[.pointer (some ⟨b,0,none⟩)] w fun e w'=>e=.returned (.int .u64 (chN s))/\∃v,St N w' b (chS s) {L with r:=v}/\To b w L w' {L with r:=v}/\∀g,v.ownBlock=some g->0<(chS s).scr.length->L.r.ownBlock=some g/\0<s.scr.length:=by
 cases h:s.scr with
 |nil=>
  obtain⟨p,c,e,hl⟩:=S.its.ir
  rw[h]at e
  have k336:w.cell? ⟨b,336,none⟩=some (.slice p 0 c):=(zb S.row (by omega)).trans (congrArg some e)
  have e1:chN s=0:=by unfold chN;rw[h]
  have e2:chS s=s:=by unfold chS;rw[h];simp only[List.tail_nil];rw[<-h]
  rw[e1,e2]
  clear hl
  have HS:Hid (St N w b s L):=S
  have HZ:Hid (0<s.scr.length->0<(@List.nil Int).length):=fun h0=>by rw[h]at h0;exact h0
  clear S
  go_enter func48,ntmps48
  go_wp2
  go_ret
  exact⟨rfl,L.r,HS.out,To.refl b w L,fun g hg h0=>⟨hg,HZ.out h0⟩⟩
 |cons x l=>
  obtain⟨p,c,e,hl⟩:=S.its.ir
  rw[h]at e hl
  obtain⟨g,o,rfl,hlt,hc⟩:=hl.sure (by simp)
  have hle:=hl.le
  simp only[List.length_cons]at e hle
  have k336:w.cell? ⟨b,336,none⟩=some (.slice (some ⟨g,o,none⟩) (l.length+1) c):=(zb S.row (by omega)).trans (congrArg some e)
  have kx:w.cell? ⟨g,o,none⟩=some (.int .i64 x):=by simpa[ics]using hc 0 (.int .i64 x) (by simp[ics])
  have fr:w.frozen? ⟨b,336,none⟩=false:=frozen_of_row _ _ _ _ _ S.row
  have hc1:1<=c:=by omega
  have e1:chN s=x%18446744073709551616:=by unfold chN;rw[h]
  have e2:chS s={s with scr:=l}:=by unfold chS;rw[h];rfl
  rw[e1,e2]
  have HS:Hid (St N w b s L):=S
  have HL:Hid (LC w (some ⟨g,o,none⟩) (x::l).length c 1 (ics (x::l))):=hl
  have HN:Hid (¬own b L g):=S.its.sr g (by rw[e];rfl) (by rw[h];simp)
  have HR:Hid (L.r.ownBlock=some g/\0<s.scr.length):=⟨by rw[e];rfl,by rw[h];simp⟩
  clear S hl hc e h e1 e2 hlt
  have hd:ics l=(ics (x::l)).drop (1*1):=by simp[ics]
  go_enter func48,ntmps48
  go_wp2
  ·go_ret
   refine⟨rfl,.slice (some ⟨g,o,none⟩) l.length 0,St.cell HS.out.row (HS.out.its.setR (l:=l) ⟨_,0,rfl,?_⟩ (fun g' hg' h0=>?_)) 336 _ (fun j hj=>zoE s L _ j hj),jT w 336 _ (fun g hg=>.inl hg),fun g' hg' _=>HR.out.1.trans (by cases hg';rfl)⟩
   ·have hz:l.length=0:=by omega
    obtain rfl:l=[]:=List.eq_nil_of_length_eq_zero hz
    exact Wi.zee w _ 1
   ·omega
  ·go_ret
   refine⟨rfl,.slice (some ⟨g,o+1,none⟩) l.length (c-1),St.cell HS.out.row (HS.out.its.setR (l:=l) ⟨_,c-1,rfl,?_⟩ (fun g' hg' h0=>?_)) 336 _ (fun j hj=>zoE s L _ j hj),jT w 336 _ (fun g hg=>.inl hg),fun g' hg' _=>HR.out.1.trans (by cases hg';rfl)⟩
   ·rw[hd]
    have:=HL.out.drop 1 (by simp) (a:=some ⟨g,o+1,none⟩) (fun _=>rfl) rfl
    simpa using this
   ·obtain rfl:g=g':=Option.some.inj hg'
    exact HN.out
theorem Apt.scr{b q:Nat}{s:Cr}{L:Sls}(A:Apt b q s L){v:Value}{k:List Int}(h:∀g,v.ownBlock=some g->0<k.length->L.r.ownBlock=some g/\0<s.scr.length):Apt b q {s with scr:=k} {L with r:=v}:=
 ⟨A.o,A.m,A.f,A.sl,fun g hg h0=>A.r g (h g hg h0).1 (h g hg h0).2,A.g1,A.g2⟩
theorem zfW(x:Int):IntKind.u32.wrap x=x%4294967296:=by rfl
abbrev tbL(t:Tb):List Value:=(rowOf (tat t) 64).toList
theorem St.table{N:Nat}{w:World}{b:Nat}{s:Cr}{L:Sls}(S:St N w b s L):w.rangeAt b 43 (tbL s.tb):=jB S.row (by omega) (zp0 s L)
theorem xE(t:Tb):(prog.info? 51).map (·.size)=some (tbL t).length:=by
 rw[Array.length_toList,zf]
 exact Gu.yd
theorem zmH{t:Tb}(pc:Int)(hp:U32 pc)(w:World):Calls prog 148 #[.agg (tbL t).toArray,.int .u32 pc] w fun e w'=>e=.returned (.tuple #[.bool (brM t pc).1,.int .u32 (brM t pc).2])/\Below w.heap.size w w':=by
 have e:(tbL t).toArray=tcs t:=by rw[yl]
 rw[e]
 exact Gu.gBr t pc hp.1 hp.2 w
theorem zpd{t:Tb}(ht:Gu.TbOk t)(pc:Int)(hp:U32 pc)(w:World):Calls prog 149 #[.agg (tbL t).toArray,.int .u32 pc] w fun e w'=>e=.returned (.tuple #[.int .u32 (vaM t pc).1,.bool (vaM t pc).2])/\Below w.heap.size w w':=by
 have e:(tbL t).toArray=tcs t:=by rw[yl]
 rw[e]
 exact Gu.gVa t ht pc hp.1 hp.2 w
theorem zfX{N:Nat}{w:World}{b:Nat}{s:Cr}{L:Sls}(S:St N w b s L)(ht:Gu.TbOk s.tb)(pc k:Int)(hp:U32 pc)(k0:0<=k)(k1:k<=18446744073709551615):
  Calls prog 118 #[.pointer (some ⟨b,0,none⟩),.int .u32 pc,.int .u64 k] w fun e w'=>e=.returned (.tuple #[.int .u32 (valO mach s pc k).1,.bool (valO mach s pc k).2])/\Below w.heap.size w w':=by
 have HS:Hid (St N w b s L):=S
 have CV:=fun W=>zpd ht pc hp W
 have E:Hid (∀j,j=k%3->valO mach s pc k=if j=1 then(0,false)else if j=2 then(k%4294967296,true)else vaM s.tb pc):=fun j hj=>by subst hj;rfl
 obtain⟨r,hr⟩:∃r,r=valO mach s pc k:=⟨_,rfl⟩
 rw[<-hr]at E⊢
 obtain⟨v,hv⟩:∃v,v=vaM s.tb pc:=⟨_,rfl⟩
 rw[<-hv]at E CV
 obtain⟨j,hj⟩:∃j,j=k%3:=⟨_,rfl⟩
 have F:=E.out j hj
 have hj0:0<=j/\j<3:=by omega
 clear S hr hv E
 by_cases h1:j=1
 ·rw[if_pos h1]at F
  have hm:k%3=1:=by omega
  clear hj hj0 h1
  subst F
  go_enter func118,ntmps118
  go_wp2
  go_ret2
  exact⟨rfl,Below.refl _ _⟩
 ·by_cases h2:j=2
  ·rw[if_neg h1,if_pos h2]at F
   have hm:k%3=2:=by omega
   clear hj hj0 h1 h2
   subst F
   go_enter func118,ntmps118
   go_wp2
   go_ret2
   exact⟨rfl,Below.refl _ _⟩
  ·rw[if_neg h1,if_neg h2]at F
   have hm:k%3=0:=by omega
   clear hj hj0 h1 h2
   subst F
   go_enter func118,ntmps118
   go_wp2_with(refine wpList_load_mid rfl 51 _ rfl b 43 rfl (tbL s.tb) _ HS.out.table underlying51 rfl (xE _) ?_)
   refine(CV _).mono ?_
   rintro e V3 ⟨rfl,hk⟩
   go_wp2
   go_ret2
   exact⟨rfl,hk⟩
theorem zkb{N:Nat}{w:World}{b:Nat}{s:Cr}{L:Sls}(S:St N w b s L)(ht:Gu.TbOk s.tb)(o:Dg)(hp:U32 o.pc)(i0:-2147483648<=o.i.im)(i1:o.i.im<=2147483647):
  Calls prog 117 #[.pointer (some ⟨b,0,none⟩),dgv o] w fun e w'=>e=.returned (.int .u32 (wayO mach s o).2)/\∃L',St N w' b (wayO mach s o).1 L'/\To b w L w' L'/\∀q,Apt b q s L->Apt b q (wayO mach s o).1 L':=by
 have CT:=fun W=>zaz o.i W
 have CB:=fun W=>zmH (t:=s.tb) o.pc hp W
 obtain⟨x,hx⟩:∃x,IntKind.u32.wrap o.i.im=x:=⟨_,rfl⟩
 obtain⟨y,hy⟩:∃y,IntKind.u32.wrap (o.pc+x)=y:=⟨_,rfl⟩
 obtain⟨z,hz⟩:∃z,IntKind.u32.wrap (o.pc+4)=z:=⟨_,rfl⟩
 have ey:(o.pc+o.i.im)%4294967296=y:=by rw[<-hy,<-hx,zfW,zfW];omega
 have ez:(o.pc+4)%4294967296=z:=by rw[<-hz,zfW]
 obtain⟨r,hr⟩:∃r,r=wayO mach s o:=⟨_,rfl⟩
 obtain⟨tk,htk⟩:∃tk,tk=(brM s.tb o.pc).1:=⟨_,rfl⟩
 obtain⟨tg,htg⟩:∃tg,tg=(brM s.tb o.pc).2:=⟨_,rfl⟩
 have HR:Hid (r=if o.i.op=3 then(s,y)else if trn o.i then(chS s,if(tk^^decide (chN s%2=1))then(if o.i.op=4 then tg else y)else z)else(s,z)):=by
  show _=_
  rw[hr,htk,htg,<-ey,<-ez]
  rfl
 rw[<-hr]
 rw[<-htk,<-htg]at CB
 have HS:Hid (St N w b s L):=S
 clear S hr htk htg ey ez
 go_enter func117,ntmps117
 go_upto_region 1 with fail
 refine Wi.zA (Φ:=fun W=>Code.wp _ _ _ _ W) ?_
 intro V hV hVb
 have BV:Hid (Bx V w.heap.size o):=hV
 have SV:Hid (St N V b s L):=HS.out.below hVb
 have TV:Hid (To b w L V L):=ze L hVb
 have HQ:Hid (¬own b L w.heap.size):=fun h=>by have:=qR HS.out h;omega
 clear hV hVb HS
 generalize w.heap.size=q at*
 refine zx (S:=fun w'=>w'.cell? ⟨q,1,none⟩=some (.int .u32 o.pc)/\w'.cell? ⟨q,6,none⟩=some (.int .i32 o.i.im)) [] (by kernel_rfl) (⟨zq BV.out 1 rfl,zq BV.out 6 rfl⟩) (fun hH=>?_)
 refine tU 0 (.pointer (some ⟨q,1,none⟩)) rfl hH ?_;try go_simp
 refine tS 1 (.int .u32 o.pc) rfl (Or.inl ⟨by rfl,by intro wz hSw;have hc:=hSw.1;go_simp⟩) hH ?_;try go_simp
 refine tU 2 (.int .u32 z) rfl hH ?_;try go_simp
 refine tU 3 (.pointer (some ⟨q,1,none⟩)) rfl hH ?_;try go_simp
 refine tS 4 (.int .u32 o.pc) rfl (Or.inl ⟨by rfl,by intro wz hSw;have hc:=hSw.1;go_simp⟩) hH ?_;try go_simp
 refine tU 5 (.pointer (some ⟨q,2,none⟩)) rfl hH ?_;try go_simp
 refine tU 6 (.pointer (some ⟨q,6,none⟩)) rfl hH ?_;try go_simp
 refine tS 7 (.int .i32 o.i.im) rfl (Or.inl ⟨by rfl,by intro wz hSw;have hc:=hSw.2;go_simp⟩) hH ?_;try go_simp
 refine tU 8 (.int .u32 x) rfl hH ?_;try go_simp
 refine tU 9 (.int .u32 y) rfl hH ?_;try go_simp
 refine tU 10 (.int .u32 z) rfl hH ?_;try go_simp
 refine tU 11 (.int .u32 y) rfl hH ?_;try go_simp
 refine zJ (by kernel_rfl) ?_ _
 clear hH
 have c2:=zq BV.out 2 (v:=.int .i64 o.i.op) rfl
 have HOP:Hid (∀k,o.i.op=k->o.i.op=k):=fun _ h=>h
 obtain⟨p,hpp⟩:∃p,p=o.i.op:=⟨_,rfl⟩
 rw[<-hpp]at c2 HR
 have HP:Hid (p=o.i.op):=hpp
 clear hpp HOP
 by_cases h3:p=3
 ·have hr:=HR.out
  rw[if_pos h3]at hr
  subst hr h3
  clear HR
  go_wp2
  go_ret
  exact⟨rfl,L,SV.out.dr,TV.out.dr,fun q h=>h⟩
 ·have h3':(p==3)=false:=by simpa using h3
  have hr:=HR.out
  rw[if_neg h3]at hr
  have HR2:Hid (r=if trn o.i then(chS s,if(tk^^decide (chN s%2=1))then(if p=4 then tg else y)else z)else(s,z)):=hr
  clear HR hr
  go_wp2_with(refine wpList_load_mid rfl 77 _ rfl q 2 rfl (ivL o.i).toList _ (xb BV.out) underlying77 rfl (qL _) ?_)
  refine(CT _).mono ?_
  rintro e V2 ⟨rfl,hk⟩
  have B2:Hid (Bx V2 q o):=BV.out.dr.below hk
  have S2:Hid (St N V2 b s L):=SV.out.dr.below hk
  have T2:Hid (To b w L V2 L):=TV.out.dr.trans (ze L hk)
  clear hk CT BV SV TV c2
  cases htr:trn o.i with
  |false=>
   have hr:=HR2.out
   rw[htr]at hr
   simp only[Bool.false_eq_true,if_false]at hr
   subst hr
   clear HR2 htr
   go_wp2
   go_ret
   exact⟨rfl,L,S2.out,T2.out,fun q h=>h⟩
  |true=>
   have hr:=HR2.out
   rw[htr]at hr
   simp only[if_true]at hr
   have HR3:Hid (r=(chS s,if(tk^^decide (chN s%2=1))then(if p=4 then tg else y)else z)):=hr
   clear HR2 htr hr
   go_upto_region 6 with fail
   refine zx (S:=fun w'=>w'.rangeAt b 43 (tbL s.tb)/\w'.cell? ⟨q,1,none⟩=some (.int .u32 o.pc)) [] (by kernel_rfl) (⟨S2.out.table,zq B2.out 1 rfl⟩) (fun hH=>?_)
   refine tU 0 (.pointer (some ⟨b,0,none⟩)) rfl hH ?_;try go_simp
   refine tU 1 (.pointer (some ⟨b,0,none⟩)) rfl hH ?_;try go_simp
   refine tU 2 (.pointer (some ⟨b,43,none⟩)) rfl hH ?_;try go_simp
   refine tS 3 (.agg (tbL s.tb).toArray) rfl (yieldsIf_load_mid (by rfl) 51 _ rfl _ _ rfl (tbL s.tb) _ (fun wz hSw=>hSw.1) underlying51 rfl (xE _)) hH ?_;try go_simp
   refine tU 4 (.pointer (some ⟨q,1,none⟩)) rfl hH ?_;try go_simp
   refine tS 5 (.int .u32 o.pc) rfl (Or.inl ⟨by rfl,by intro wz hSw;have hc:=hSw.2;go_simp⟩) hH ?_;try go_simp
   refine zC 6 rfl (fun K hK=>?_)
   go_simp
   refine(CB _).mono ?_
   rintro e V3 ⟨rfl,hk⟩
   have HK:Hid (Below V2.heap.size V2 V3):=zi hk (Nat.le_refl _)
   go_wp2_with fail
   refine hK.out _ _ (⟨jy hk (hH.1),zn hk (hH.2)⟩) (fun hN=>?_)
   clear hK K hH
   have hH:=hN
   clear hN
   try go_simp
   refine tU 7 (.tuple #[.bool tk,.int .u32 tg]) rfl hH ?_;try go_simp
   refine tU 8 (.bool tk) rfl hH ?_;try go_simp
   refine tU 9 (.int .u32 tg) rfl hH ?_;try go_simp
   refine tU 10 (.bool tk) rfl hH ?_;try go_simp
   refine tU 11 (.int .u32 tg) rfl hH ?_;try go_simp
   refine zJ (by kernel_rfl) ?_ _
   have S3:Hid (St N V3 b s L):=S2.out.below HK.out
   have B3:Hid (Bx V3 q o):=B2.out.below HK.out
   have T3:Hid (To b w L V3 L):=T2.out.trans (ze L HK.out)
   clear HK hH S2 B2 T2 CB
   go_wp2_with fail
   refine(xU S3.out).mono ?_
   rintro e V4 ⟨rfl,v4,s4,t4,a4⟩
   have S4:Hid (St N V4 b (chS s) {L with r:=v4}):=s4
   have T4:Hid (To b w L V4 {L with r:=v4}):=T3.out.trans t4
   have A4:Hid (∀q,Apt b q s L->Apt b q (chS s) {L with r:=v4}):=fun q h=>h.scr a4
   have B4:Hid (Bx V4 q o):=B3.out.to t4 HQ.out
   clear s4 t4 a4 S3 T3 B3
   have c2:V4.cell? ⟨q,2,none⟩=some (.int .i64 p):=zq B4.out 2 (by rw[HP.out];rfl)
   obtain⟨n,hn⟩:∃n,n=chN s:=⟨_,rfl⟩
   rw[<-hn]
   have n0:0<=n:=by rw[hn];exact zbm s
   have hr:=HR3.out
   rw[<-hn]at hr
   clear hn HR3
   rcases(by omega:n%2=1\/n%2=0)with hm|hm
   ·rw[decide_eq_true hm]at hr
    have HR4:Hid (r=(chS s,if(tk^^true)then(if p=4 then tg else y)else z)):=hr
    clear hr
    cases tk with
    |true=>
     have hr:=HR4.out
     subst hr
     clear HR4
     go_wp2
     go_ret
     exact⟨rfl,_,S4.out,T4.out,A4.out⟩
    |false=>
     by_cases h4:p=4
     ·have hr:=HR4.out
      rw[if_pos h4]at hr
      subst hr h4
      clear HR4
      go_wp2
      go_ret
      exact⟨rfl,_,S4.out,T4.out,A4.out⟩
     ·have h4':(p==4)=false:=by simpa using h4
      have hr:=HR4.out
      rw[if_neg h4]at hr
      subst hr
      clear HR4
      go_wp2
      go_ret
      exact⟨rfl,_,S4.out,T4.out,A4.out⟩
   ·rw[decide_eq_false (by omega)]at hr
    have HR4:Hid (r=(chS s,if(tk^^false)then(if p=4 then tg else y)else z)):=hr
    clear hr
    cases tk with
    |false=>
     have hr:=HR4.out
     subst hr
     clear HR4
     go_wp2
     go_ret
     exact⟨rfl,_,S4.out,T4.out,A4.out⟩
    |true=>
     by_cases h4:p=4
     ·have hr:=HR4.out
      rw[if_pos h4]at hr
      subst hr h4
      clear HR4
      go_wp2
      go_ret
      exact⟨rfl,_,S4.out,T4.out,A4.out⟩
     ·have h4':(p==4)=false:=by simpa using h4
      have hr:=HR4.out
      rw[if_neg h4]at hr
      subst hr
      clear HR4
      go_wp2
      go_ret
      exact⟨rfl,_,S4.out,T4.out,A4.out⟩
theorem Bx.nx{w:World}{q:Nat}{o:Dg}(h:Bx w q o)(x:Int):Bx (w.setCell ⟨q,13,none⟩ (.int .u32 x)) q {o with next:=x}:=h.put 13 _ (by omega) rfl
theorem Bx.late{w:World}{q:Nat}{o:Dg}(h:Bx w q o)(x:Int):Bx (w.setCell ⟨q,15,none⟩ (.int .i64 x)) q {o with late:=x}:=h.put 15 _ (by omega) rfl
theorem Bx.car{w:World}{q:Nat}{o:Dg}(h:Bx w q o)(x:Bool):Bx (w.setCell ⟨q,16,none⟩ (.bool x)) q {o with car:=x}:=h.put 16 _ (by omega) rfl
theorem Bx.gsd{w:World}{q:Nat}{o:Dg}(h:Bx w q o)(x:Bool):Bx (w.setCell ⟨q,14,none⟩ (.bool x)) q {o with gs:=x}:=h.put 14 _ (by omega) rfl
theorem Apt.fro{b q:Nat}{s:Cr}{L:Sls}(h:Apt b q s L)(x:Int):Apt b q {s with fro:=x} L:=⟨h.o,h.m,h.f,h.sl,h.r,h.g1,h.g2⟩
theorem Apt.words{b q:Nat}{s:Cr}{L:Sls}(h:Apt b q s L)(x:Int->Int)(y:Int->Bool):Apt b q {s with wd:=x,th:=y} L:=⟨h.o,h.m,h.f,h.sl,h.r,h.g1,h.g2⟩
theorem zbB{N:Nat}{w V:World}{b q:Nat}{s:Cr}{L L':Sls}{o o':Dg}{j:Nat}{v:Value}(S:St N V b s L')(A:Apt b q s L')(T:Toq b q w L V L')(B:Bx (V.setCell ⟨q,j,none⟩ v) q o'):St N (V.setCell ⟨q,j,none⟩ v) b s L'/\Bx (V.setCell ⟨q,j,none⟩ v) q o'/\Toq b q w L (V.setCell ⟨q,j,none⟩ v) L':=
 ⟨S.other (qd V q j v) A,B,T.trans (zaB (qd V q j v))⟩
theorem zkW(s:Cr):chN s<=18446744073709551615:=by
 unfold chN
 split
 ·decide
 ·omega
theorem zaD{N:Nat}{w:World}{b q:Nat}{s:Cr}{L:Sls}{o:Dg}(S:St N w b s L)(B:Bx w q o)(A:Apt b q s L)(ht:Gu.TbOk s.tb)(hp:U32 o.pc)(i0:-2147483648<=o.i.im)(i1:o.i.im<=2147483647)(ht0:0<=o.to)(ht1:o.to<96):
  Calls prog 82 #[.pointer (some ⟨b,0,none⟩),.pointer (some ⟨q,0,none⟩)] w fun e w'=>e=.returned (.tuple #[])/\∃L',St N w' b (gueO mach s o).1 L'/\Bx w' q (gueO mach s o).2/\Apt b q (gueO mach s o).1 L'/\Toq b q w L w' L':=by
 have CW:Hid (∀W,Below w.heap.size w W->Calls prog 117 #[.pointer (some ⟨b,0,none⟩),dgv o] W fun e w'=>e=.returned (.int .u32 (wayO mach s o).2)/\∃L',St N w' b (wayO mach s o).1 L'/\To b W L w' L'/\∀q,Apt b q s L->Apt b q (wayO mach s o).1 L'):=fun W hW=>zkb (S.below hW) ht o hp i0 i1
 obtain⟨r,hr⟩:∃r,r=gueO mach s o:=⟨_,rfl⟩
 obtain⟨s1,hs1⟩:∃s1,s1=(wayO mach s o).1:=⟨_,rfl⟩
 obtain⟨x,hx⟩:∃x,x=(wayO mach s o).2:=⟨_,rfl⟩
 have HR:Hid (r=if ldn o.i.op=0 then({s1 with fro:=x},{o with next:=x})else gueL mach {s1 with fro:=x} {o with next:=x}):=by show _=_;rw[hr,hs1,hx];rfl
 have htb:s1.tb=s.tb:=by
  rw[hs1]
  unfold wayO
  split
  ·rfl
  ·split<;>rfl
 rw[<-hr]
 rw[<-hs1,<-hx]at CW
 have HT:Hid (Gu.TbOk s1.tb):=by rw[htb];exact ht
 have HB:Hid (Bx w q o):=B
 have HA:Hid (Apt b q s L):=A
 have HS:Hid (St N w b s L):=S
 have c28:Hid (w.rangeAt q 0 (dgl o)):=zeE B fun i v hi=>by rw[Nat.zero_add];exact hi
 clear S A hr hs1 hx htb ht B
 go_enter func82,ntmps82
 go_wp2_with(refine wpList_load_mid rfl 97 _ rfl q 0 rfl (dgl o) _ c28.out underlying97 rfl (zN o) ?_)
 refine(CW.out _ (Below.refl _ _)).mono ?_
 rintro e V1 ⟨rfl,L1,t1,t2,t3⟩
 have S1:Hid (St N V1 b s1 L1):=t1
 have T1:Hid (Toq b q w L V1 L1):=t2.q
 have A1:Hid (Apt b q s1 L1):=t3 q HA.out
 have B1:Hid (Bx V1 q o):=HB.out.to t2 HA.out.o
 have c13:=zq B1.out 13 (v:=.int .u32 o.next) rfl
 have f13:=qy B1.out 13
 clear t1 t2 t3
 go_upto_region 1 with fail
 obtain⟨s2,b2,t2⟩:=zbB (o:=o) S1.out A1.out T1.out (B1.out.nx x)
 have S2:Hid (St N (V1.setCell ⟨q,13,none⟩ (.int .u32 x)) b s1 L1):=s2
 have B2:Hid (Bx (V1.setCell ⟨q,13,none⟩ (.int .u32 x)) q {o with next:=x}):=b2
 have T2:Hid (Toq b q w L (V1.setCell ⟨q,13,none⟩ (.int .u32 x)) L1):=t2
 clear s2 b2 t2 S1 B1 T1 c13 f13 c28 CW HA HB HS
 generalize V1.setCell ⟨q,13,none⟩ (.int .u32 x)=V2 at*
 have c13:V2.cell? ⟨q,13,none⟩=some (.int .u32 x):=zq B2.out 13 rfl
 have k337:V2.cell? ⟨b,337,none⟩=some (.int .u32 s1.fro):=(zb S2.out.row (by omega)).trans rfl
 have f337:=S2.out.frozen 337
 go_upto_region 2 with fail
 obtain⟨s3,t3⟩:=S2.out.setFro x
 have S3:Hid (St N (V2.setCell ⟨b,337,none⟩ (.int .u32 x)) b {s1 with fro:=x} L1):=s3
 have B3:Hid (Bx (V2.setCell ⟨b,337,none⟩ (.int .u32 x)) q {o with next:=x}):=B2.out.to t3 A1.out.o
 have T3:Hid (Toq b q w L (V2.setCell ⟨b,337,none⟩ (.int .u32 x)) L1):=T2.out.trans t3.q
 have A3:Hid (Apt b q {s1 with fro:=x} L1):=A1.out.fro x
 clear s3 t3 S2 B2 T2 A1 c13 k337 f337
 generalize V2.setCell ⟨b,337,none⟩ (.int .u32 x)=V3 at*
 obtain⟨s2,hs2⟩:∃s2:Cr,s2={s1 with fro:=x}:=⟨_,rfl⟩
 obtain⟨o2,ho2⟩:∃o2:Dg,o2={o with next:=x}:=⟨_,rfl⟩
 rw[<-hs2]at S3 A3 HR
 rw[<-ho2]at B3 HR
 have HT2:Hid (Gu.TbOk s2.tb):=by rw[hs2];exact HT.out
 have HO:Hid (o2.pc=o.pc/\o2.i=o.i/\o2.to=o.to):=by rw[ho2];exact⟨rfl,rfl,rfl⟩
 have hop:o.i.op=o2.i.op:=by rw[HO.out.2.1]
 rw[hop]at HR
 have hp2:U32 o2.pc:=by rw[HO.out.1];exact hp
 have to0:0<=o2.to:=by rw[HO.out.2.2];exact ht0
 have to1:o2.to<96:=by rw[HO.out.2.2];exact ht1
 clear HT hs2 ho2 hop HO hp ht0 ht1 i0 i1
 have c2:=zq B3.out 2 (v:=.int .i64 o2.i.op) rfl
 have CL:=fun W=>jg o2.i.op W
 obtain⟨ld,hld⟩:∃ld,ld=ldn o2.i.op:=⟨_,rfl⟩
 rw[<-hld]at CL HR
 go_wp2_with fail
 refine(CL _).mono ?_
 rintro e V4 ⟨rfl,hk⟩
 subst hk
 have S4:Hid (St N V4 b s2 L1):=S3.out
 have B4:Hid (Bx V4 q o2):=B3.out
 have T4:Hid (Toq b q w L V4 L1):=T3.out
 clear CL S3 B3 T3 c2
 by_cases h0:ld=0
 ·have hr:=HR.out
  rw[if_pos h0]at hr
  have h0':(ld==0)=true:=by simp[h0]
  clear hld HR
  subst hr
  go_wp2_with fail
  refine bodyPost_ret (results_none rfl _ _ _) rfl ⟨rfl,L1,?_⟩
  exact⟨S4.out,B4.out,A3.out,T4.out⟩
 ·have h0':(ld==0)=false:=by simpa using h0
  have hr:=HR.out
  rw[if_neg h0]at hr
  have HR2:Hid (r=gueL mach s2 o2):=hr
  clear hld HR hr h0
  go_wp2_with fail
  refine(xU S4.out).mono ?_
  rintro e V5 ⟨rfl,v5,s5,t5,a5⟩
  have S5:Hid (St N V5 b (chS s2) {L1 with r:=v5}):=s5
  have T5:Hid (Toq b q w L V5 {L1 with r:=v5}):=T4.out.trans t5.q
  have A5:Hid (Apt b q (chS s2) {L1 with r:=v5}):=A3.out.scr a5
  have B5:Hid (Bx V5 q o2):=B4.out.to t5 A3.out.o
  clear s5 t5 a5 S4 T4 B4 A3
  generalize ({L1 with r:=v5}:Sls)=L5 at*
  obtain⟨n,hn⟩:∃n,n=chN s2:=⟨_,rfl⟩
  have n0:0<=n:=by rw[hn];exact zbm s2
  have n1:n<=18446744073709551615:=by rw[hn];exact zkW s2
  rw[<-hn]
  obtain⟨s3,hs3⟩:∃s3,s3=chS s2:=⟨_,rfl⟩
  have hv3:∀k,valO mach s2 o2.pc k=valO mach s3 o2.pc k:=fun k=>by rw[hs3];rfl
  have HT3:Hid (Gu.TbOk s3.tb):=by rw[hs3];exact HT2.out
  have HR3:Hid (r=if(valO mach s3 o2.pc (n/10/2)).2=true/\o2.rd≠0 then({s3 with wd:=upI s3.wd o2.to (valO mach s3 o2.pc (n/10/2)).1,th:=upB s3.th o2.to true},{o2 with late:=n%10,car:=decide (n/10%2=1),gs:=true})else(s3,{o2 with late:=n%10,car:=decide (n/10%2=1)})):=by
   show _=_
   rw[HR2.out,hn]
   unfold gueL
   simp only[hv3]
   rw[hs3]
   rfl
  rw[<-hs3]at S5 A5
  clear HR2 hn hv3 hs3 HT2
  have c15:=zq B5.out 15 (v:=.int .i64 o2.late) rfl
  have f15:=qy B5.out 15
  have m10:0<=n%10/\n%10<10:=by omega
  obtain⟨j,hj⟩:∃j,j=n%10:=⟨_,rfl⟩
  obtain⟨n2,hn2⟩:∃n2,n2=n/10:=⟨_,rfl⟩
  go_upto_region 5 with fail
  rw[<-hj]at m10
  rw[<-hj,<-hn2]at HR3
  simp only[<-hj]
  obtain⟨s6,b6,t6⟩:=zbB (o:=o2) S5.out A5.out T5.out (B5.out.late j)
  have S6:Hid (St N (V5.setCell ⟨q,15,none⟩ (.int .i64 j)) b s3 L5):=s6
  have B6:Hid (Bx (V5.setCell ⟨q,15,none⟩ (.int .i64 j)) q {o2 with late:=j}):=b6
  have T6:Hid (Toq b q w L (V5.setCell ⟨q,15,none⟩ (.int .i64 j)) L5):=t6
  clear s6 b6 t6 S5 B5 T5 c15 f15 hj m10
  generalize V5.setCell ⟨q,15,none⟩ (.int .i64 j)=V6 at*
  have c16:=zq B6.out 16 (v:=.bool o2.car) rfl
  have f16:=qy B6.out 16
  have n20:0<=n2:=by omega
  have n21:n2<=18446744073709551615:=by omega
  go_upto_region 6 with fail
  simp only[<-hn2]
  clear hn2 n0 n1
  obtain⟨cr,hcr⟩:∃cr,cr=decide (n2%2=1):=⟨_,rfl⟩
  obtain⟨n4,hn4⟩:∃n4,n4=n2/2:=⟨_,rfl⟩
  rw[<-hcr,<-hn4]at HR3
  have HcrA:Hid (∀i:Decidable (n2%2=1),@decide (n2%2=1) i=cr):=fun i=>by rw[hcr];congr
  have HcrB:Hid ((n2%2==1)=cr):=by show _=_;rw[hcr];rcases(by omega:n2%2=1\/n2%2=0)with h|h<;>rw[h]<;>rfl
  clear hcr
  go_upto_region 7 with fail
  have hcrA:=HcrA.out
  have hcrB:=HcrB.out
  try simp only[hcrA]
  try simp only[hcrB]
  clear hcrA hcrB HcrA HcrB
  obtain⟨s7,b7,t7⟩:=zbB (o:={o2 with late:=j}) S6.out A5.out T6.out (B6.out.car cr)
  have S7:Hid (St N (V6.setCell ⟨q,16,none⟩ (.bool cr)) b s3 L5):=s7
  have B7:Hid (Bx (V6.setCell ⟨q,16,none⟩ (.bool cr)) q {o2 with late:=j,car:=cr}):=b7
  have T7:Hid (Toq b q w L (V6.setCell ⟨q,16,none⟩ (.bool cr)) L5):=t7
  clear s7 b7 t7 S6 B6 T6 c16 f16
  generalize V6.setCell ⟨q,16,none⟩ (.bool cr)=V7 at*
  have c1:=zq B7.out 1 (v:=.int .u32 o2.pc) rfl
  have n40:0<=n4:=by omega
  have n41:n4<=18446744073709551615:=by omega
  have CV:Hid (Calls prog 118 #[.pointer (some ⟨b,0,none⟩),.int .u32 o2.pc,.int .u64 n4] V7 fun e w'=>e=.returned (.tuple #[.int .u32 (valO mach s3 o2.pc n4).1,.bool (valO mach s3 o2.pc n4).2])/\Below V7.heap.size V7 w'):=zfX S7.out HT3.out o2.pc n4 hp2 n40 n41
  obtain⟨y,hy⟩:∃y,y=(valO mach s3 o2.pc n4).1:=⟨_,rfl⟩
  obtain⟨ok,hok⟩:∃ok,ok=(valO mach s3 o2.pc n4).2:=⟨_,rfl⟩
  rw[<-hy,<-hok]at CV HR3
  rw[hn4]at CV
  clear hy hok n40 n41 hp2 HT3
  go_wp2_with fail
  refine CV.out.mono ?_
  rintro e V8 ⟨rfl,hk⟩
  have S8:Hid (St N V8 b s3 L5):=S7.out.below hk
  have B8:Hid (Bx V8 q {o2 with late:=j,car:=cr}):=B7.out.below hk
  have T8:Hid (Toq b q w L V8 L5):=T7.out.trans (ze L5 hk).q
  clear hk S7 B7 T7 c1 CV hn4 n20 n21
  obtain⟨k,hk⟩:∃k,k=o2.rd:=⟨_,rfl⟩
  rw[<-hk]at HR3
  have c10:V8.cell? ⟨q,10,none⟩=some (.int .i64 (k:Int)):=zq B8.out 10 (by rw[hk];rfl)
  have HKK:Hid (k=o2.rd):=hk
  clear hk
  by_cases hc:ok=true/\k≠0
  ·obtain⟨rfl,hk0⟩:=hc
   have hb0:((k:Int) != 0)=true:=by simp[hk0]
   have hr:=HR3.out
   rw[if_pos ⟨rfl,hk0⟩]at hr
   have HR4:Hid (r=({s3 with wd:=upI s3.wd o2.to y,th:=upB s3.th o2.to true},{o2 with late:=j,car:=cr,gs:=true})):=by
    show _=_
    rw[hr,HKK.out]
   clear hr HR3 hk0
   obtain⟨z,hz⟩:∃z:Nat,o2.to=(z:Int):=Int.eq_ofNat_of_zero_le to0
   have hz1:z<96:=by omega
   have c14:=zq B8.out 14 (v:=.bool o2.gs) rfl
   have f14:=qy B8.out 14
   go_upto_region 10 with fail
   obtain⟨s9,b9,t9⟩:=zbB (o:={o2 with late:=j,car:=cr}) S8.out A5.out T8.out (B8.out.gsd true)
   have S9:Hid (St N (V8.setCell ⟨q,14,none⟩ (.bool true)) b s3 L5):=s9
   have B9:Hid (Bx (V8.setCell ⟨q,14,none⟩ (.bool true)) q {o2 with late:=j,car:=cr,gs:=true}):=b9
   have T9:Hid (Toq b q w L (V8.setCell ⟨q,14,none⟩ (.bool true)) L5):=t9
   clear s9 b9 t9 S8 B8 T8 c10 c14 f14
   generalize V8.setCell ⟨q,14,none⟩ (.bool true)=V9 at*
   have c11:V9.cell? ⟨q,11,none⟩=some (.int .i64 (z:Int)):=zq B9.out 11 (by rw[<-hz];rfl)
   have cW:=S9.out.wrd z hz1
   have cT:=S9.out.thr z hz1
   have fW:=S9.out.frozen (141+z)
   have fT:=S9.out.frozen (237+z)
   have z0:0<=(z:Int):=by omega
   have z1:(z:Int)<96:=by omega
   have HZ:Hid (o2.to=(z:Int)):=hz
   clear hz
   refine zx (S:=fun w'=>w'.cell? ⟨q,11,none⟩=some (.int .i64 (z:Int))) [14,18] (by kernel_rfl) (c11) (fun hH=>?_)
   refine tU 0 (.pointer (some ⟨b,0,none⟩)) rfl hH ?_;try go_simp
   refine tU 1 (.pointer (some ⟨q,0,none⟩)) rfl hH ?_;try go_simp
   refine tU 2 (.pointer (some ⟨q,0,none⟩)) rfl hH ?_;try go_simp
   refine tU 3 (.pointer (some ⟨q,11,none⟩)) rfl hH ?_;try go_simp
   refine tS 4 (.int .i64 (z:Int)) rfl (Or.inl ⟨by rfl,by intro wz hSw;have hc:=hSw;go_simp⟩) hH ?_;try go_simp
   refine tU 5 (.pointer (some ⟨b,0,none⟩)) rfl hH ?_;try go_simp
   refine tU 6 (.pointer (some ⟨q,0,none⟩)) rfl hH ?_;try go_simp
   refine tU 7 (.pointer (some ⟨q,0,none⟩)) rfl hH ?_;try go_simp
   refine tU 8 (.pointer (some ⟨q,11,none⟩)) rfl hH ?_;try go_simp
   refine tS 9 (.int .i64 (z:Int)) rfl (Or.inl ⟨by rfl,by intro wz hSw;have hc:=hSw;go_simp⟩) hH ?_;try go_simp
   refine tU 10 (.int .u32 y) rfl hH ?_;try go_simp
   refine tU 11 (.pointer (some ⟨b,0,none⟩)) rfl hH ?_;try go_simp
   refine tU 12 (.pointer (some ⟨b,141,none⟩)) rfl hH ?_;try go_simp
   refine tU 13 (.pointer (some ⟨b,141+z,none⟩)) rfl hH ?_;try go_simp
   refine tU 15 (.pointer (some ⟨b,0,none⟩)) rfl hH ?_;try go_simp
   refine tU 16 (.pointer (some ⟨b,237,none⟩)) rfl hH ?_;try go_simp
   refine zL 14 rfl (fun K hK=>?_)
   go_simp
   refine hK.out _ _ ?_
   clear hK K
   try go_simp
   refine tV 17 (.pointer (some ⟨b,237+z,none⟩)) rfl (fun h=>absurd h (by decide)) ?_;try go_simp
   refine zL 18 rfl (fun K hK=>?_)
   go_simp
   refine hK.out _ _ ?_
   clear hK K
   try go_simp
   refine zJ (by kernel_rfl) ?_ _
   clear hH
   go_wp2_with fail
   refine bodyPost_end (results_none rfl _ _ _) rfl ⟨rfl,L5,?_⟩
   have HE:=HR4.out
   have e1:r.1={s3 with wd:=upI s3.wd (z:Int) y,th:=upB s3.th (z:Int) true}:=by rw[HE,HZ.out]
   have e2:r.2={o2 with late:=j,car:=cr,gs:=true}:=by rw[HE]
   rw[e1,e2]
   obtain⟨s10,t10⟩:=S9.out.setWd z hz1 y
   obtain⟨s11,t11⟩:=s10.setTh z hz1 true
   exact⟨s11.dr,((B9.out.to t10 A5.out.o).to t11 A5.out.o).dr,A5.out.words _ _,((T9.out.trans t10.q).trans t11.q).dr⟩
  ·have hr:=HR3.out
   rw[if_neg hc]at hr
   have HR4:Hid (r=(s3,{o2 with late:=j,car:=cr})):=by
    show _=_
    rw[hr,HKK.out]
   clear hr HR3
   cases ok with
   |false=>
    clear hc
    go_wp2_with fail
    refine bodyPost_end (results_none rfl _ _ _) rfl ⟨rfl,L5,?_⟩
    rw[HR4.out]
    exact⟨S8.out,B8.out,A5.out,T8.out⟩
   |true=>
    have hk0:k=0:=Classical.byContradiction fun h=>hc ⟨rfl,h⟩
    have c10':V8.cell? ⟨q,10,none⟩=some (.int .i64 0):=by rw[c10,hk0];rfl
    clear hc c10 HKK
    go_wp2_with fail
    refine bodyPost_end (results_none rfl _ _ _) rfl ⟨rfl,L5,?_⟩
    rw[HR4.out]
    exact⟨S8.out,B8.out,A5.out,T8.out⟩
end Go.Proofs.YtpiohehijkpghabGreatDoor.Co
