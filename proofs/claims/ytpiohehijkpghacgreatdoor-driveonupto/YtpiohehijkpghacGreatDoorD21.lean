/- A core's parts, step by step. Plain mathematics. -/
import Derived.Test.YtpiohehijkpghacGreatDoorD20
open Classical renaming byContradiction->An
open Go.RowKit.Below renaming refl->AL
open Int renaming le_refl->AA
open List renaming mem_cons_of_mem->Aa,mem_cons_self->Ab,filter_cons_of_pos->Ad,mem_of_getElem?->Ae,mem_append_left->Af,getElem?_append_right->Ag,mem_filter->Ah,mem_append->Aj,length_filter_le->Ak,mem_map->Am,getElem?_append_left->Ao,getElem?_eq_getElem->Ap,length_map->Aq,mem_singleton->Ar,filter_cons_of_neg->WZ,getElem?_map->WY,set_append_right->Au,mem_append_right->Av,map_cons->Aw,map_append->Ax,filter_append->Ay,mem_of_find?_eq_some->Az,getElem?_set->AB,nodup_cons->AD,mem_of_mem_take->AE,mem_cons->AF,nodup_append->AG,length_take->AH,cons_append->AI,foldl_cons->AJ
open Nat renaming le_refl->Ai,sub_self->AK
open Option renaming map_eq_some_iff->AC
set_option maxHeartbeats 1000000
set_option maxRecDepth 20000
set_option linter.unusedSimpArgs false
set_option linter.unusedVariables false
open Go.Proofs.Tryz
namespace Go.Proofs.YtpiohehijkpghacGreatDoor.Co
open Go.RowKit
open Hy
open Wi Od Re.Hy
open Gu.Hy (Tb tcs)
theorem St.dr{N:Nat}{w:World}{b:Nat}{s:Cr}{L:Sls}(S:St N w b s L):St N w.drew b s L:=S.below ((AL _ _).drew)
theorem To.dr{b:Nat}{w w':World}{L L':Sls}(h:To b w L w' L'):To b w L w'.drew L':=⟨h.os,h.tape,h.output,h.size,h.block,h.fresh⟩
theorem Toq.dr{b q:Nat}{w w':World}{L L':Sls}(h:Toq b q w L w' L'):Toq b q w L w'.drew L':=⟨h.os,h.tape,h.output,h.size,h.block,h.fresh⟩
theorem Bx.dr{w:World}{q:Nat}{o:Dg}(h:Bx w q o):Bx w.drew q o:=h
theorem zjy{w w':World}{row:Option Nat}(h:w.grownBy w' row):w.grownBy w'.drew row:=⟨h.os,h.tape,h.output,h.size,h.block⟩
theorem St.reg{N:Nat}{w:World}{b:Nat}{s:Cr}{L:Sls}(S:St N w b s L)(x:Nat)(hx:x<32):w.cell? ⟨b,108+x,none⟩=some (.int .i64 (s.regs x)):=by
 refine(zd S.row (by omega)).trans (congrArg some ?_)
 unfold kat
 rw[if_neg (by omega),if_neg (by omega),if_neg (by omega),if_neg (by omega),if_pos (by omega)]
 unfold mat
 rw[if_neg (by omega),if_pos (by omega)]
 rw[show 108+x-107-1=x by omega]
theorem St.thr{N:Nat}{w:World}{b:Nat}{s:Cr}{L:Sls}(S:St N w b s L)(x:Nat)(hx:x<96):w.cell? ⟨b,237+x,none⟩=some (.bool (s.th (x:Int))):=by
 refine(zd S.row (by omega)).trans (congrArg some ?_)
 unfold kat
 rw[if_neg (by omega),if_neg (by omega),if_neg (by omega),if_neg (by omega),if_neg (by omega),if_neg (by omega),if_pos (by omega)]
 rw[show 237+x-237=x by omega]
theorem St.wrd{N:Nat}{w:World}{b:Nat}{s:Cr}{L:Sls}(S:St N w b s L)(x:Nat)(hx:x<96):w.cell? ⟨b,141+x,none⟩=some (.int .u32 (s.wd (x:Int))):=by
 refine(zd S.row (by omega)).trans (congrArg some ?_)
 unfold kat
 rw[if_neg (by omega),if_neg (by omega),if_neg (by omega),if_neg (by omega),if_neg (by omega),if_pos (by omega)]
 rw[show 141+x-141=x by omega]
theorem Bx.ab{w:World}{q:Nat}{o:Dg}(h:Bx w q o)(x y:Int):Bx ((w.setCell ⟨q,8,none⟩ (.int .i64 x)).setCell ⟨q,9,none⟩ (.int .i64 y)) q {o with a:=x,b:=y}:=
 Bx.put (o:={o with a:=x}) (Bx.put h 8 _ (by omega) rfl) 9 _ (by omega) rfl
theorem Bx.tos{w:World}{q:Nat}{o:Dg}(h:Bx w q o)(x y:Int):Bx ((w.setCell ⟨q,11,none⟩ (.int .i64 x)).setCell ⟨q,12,none⟩ (.int .i64 y)) q (Dg.mk o.seq o.pc o.i o.st o.a o.b o.rd x y o.next o.gs o.late o.car o.c):=
 Bx.put (o:=(Dg.mk o.seq o.pc o.i o.st o.a o.b o.rd x o.old o.next o.gs o.late o.car o.c)) (Bx.put h 11 _ (by omega) rfl) 12 _ (by omega) rfl
theorem Apt.th{b q:Nat}{s:Cr}{L:Sls}(h:Apt b q s L)(t:Int->Bool):Apt b q {s with th:=t} L:=⟨h.o,h.m,h.f,h.sl,h.r,h.g1,h.g2⟩
theorem zex(w:World)(q i j:Nat)(u v:Value):w.grownBy ((w.setCell ⟨q,i,none⟩ u).setCell ⟨q,j,none⟩ v) (some q):=zB (zZ w q i u) (zZ _ q j v)
theorem zhz{N:Nat}{w:World}{b q:Nat}{s:Cr}{L:Sls}{o:Dg}(S:St N w b s L)(B:Bx w q o)(A:Apt b q s L)(hN:Nms s)(hr:o.rd<32)(hra:ra o.i<32)(hrb:rb o.i<32)(hf:o.rd≠0->s.free≠[]):
  Calls prog 95 #[.pointer (some ⟨b,0,none⟩),.pointer (some ⟨q,0,none⟩)] w fun e w'=>e=.returned (.tuple #[])/\∃L',St N w' b (namO s o).1 L'/\Bx w' q (namO s o).2/\Apt b q (namO s o).1 L'/\Toq b q w L w' L':=by
 have CR:=fun W=>zat o.i W
 have HS:Hid (St N w b s L):=S
 have HB:Hid (Bx w q o):=B
 have HA:Hid (Apt b q s L):=A
 obtain⟨r1,e1⟩:∃r1:Cr,r1=(namO s o).1:=⟨_,rfl⟩
 obtain⟨r2,e2⟩:∃r2:Dg,r2=(namO s o).2:=⟨_,rfl⟩
 have E1:Hid (r1=(namO s o).1):=e1
 have E2:Hid (r2=(namO s o).2):=e2
 rw[<-e1,<-e2]
 obtain⟨x,hx⟩:∃x,x=ra o.i:=⟨_,rfl⟩
 obtain⟨y,hy⟩:∃y,y=rb o.i:=⟨_,rfl⟩
 have HX:Hid (x=ra o.i):=hx
 have HY:Hid (y=rb o.i):=hy
 rw[<-hx]at CR hra
 rw[<-hy]at CR hrb
 have hqb:q≠b:=fun h=>A.o (.inl h)
 clear S B A e1 e2 hx hy
 go_enter func95,ntmps95
 go_wp2_with(refine wpList_load_mid rfl 78 _ rfl q 2 rfl (ivL o.i).toList _ (xh HB.out) underlying78 rfl (qK _) ?_)
 refine(CR _).mono ?_
 rintro e V1 ⟨rfl,hk⟩
 have S1:Hid (St N V1 b s L):=HS.out.below hk
 have B1:Hid (Bx V1 q o):=HB.out.below hk
 have T1:Hid (Toq b q w L V1 L):=(ze L hk).q
 clear hk CR HS HB
 have kx:=S1.out.reg x hra
 have ky:=S1.out.reg y hrb
 have c8:=zl B1.out 8 (v:=.int .i64 o.a) rfl
 have c9:=zl B1.out 9 (v:=.int .i64 o.b) rfl
 have f8:=qw B1.out 8
 have f9:=qw B1.out 9
 have x0:0<=(x:Int):=by omega
 have x1:(x:Int)<32:=by omega
 have y0:0<=(y:Int):=by omega
 have y1:(y:Int)<32:=by omega
 go_upto_region 1 with fail
 refine zq (S:=fun w'=>w'.cell? ⟨b,108+x,none⟩=some (.int .i64 (s.regs x))/\w'.cell? ⟨b,108+y,none⟩=some (.int .i64 (s.regs y))) [18,21] (by kernel_rfl) (⟨kx,ky⟩) (fun hH=>?_)
 refine tU 0 (.pointer (some ⟨q,0,none⟩)) ?_;go_simp
 refine tU 1 (.pointer (some ⟨q,0,none⟩)) ?_;go_simp
 refine tU 2 (.pointer (some ⟨b,0,none⟩)) ?_;go_simp
 refine tU 3 (.int .i64 (x:Int)) ?_;go_simp
 refine tU 4 (.pointer (some ⟨b,0,none⟩)) ?_;go_simp
 refine tU 5 (.pointer (some ⟨b,107,none⟩)) ?_;go_simp
 refine tU 6 (.pointer (some ⟨b,108,none⟩)) ?_;go_simp
 refine tU 7 (.pointer (some ⟨b,108+x,none⟩)) ?_;go_simp
 refine tA 8 (.int .i64 (s.regs x)) ?_;go_simp
 refine tU 9 (.pointer (some ⟨b,0,none⟩)) ?_;go_simp
 refine tU 10 (.int .i64 (y:Int)) ?_;go_simp
 refine tU 11 (.pointer (some ⟨b,0,none⟩)) ?_;go_simp
 refine tU 12 (.pointer (some ⟨b,107,none⟩)) ?_;go_simp
 refine tU 13 (.pointer (some ⟨b,108,none⟩)) ?_;go_simp
 refine tU 14 (.pointer (some ⟨b,108+y,none⟩)) ?_;go_simp
 refine tB 15 (.int .i64 (s.regs y)) ?_;go_simp
 refine tU 16 (.pointer (some ⟨q,0,none⟩)) ?_;go_simp
 refine tU 17 (.pointer (some ⟨q,8,none⟩)) ?_;go_simp
 refine zL 18 rfl (fun K hK=>?_)
 go_simp
 refine hK.out _ _ ?_
 clear hK K
 try go_simp
 refine tV 19 (.pointer (some ⟨q,0,none⟩)) rfl (fun h=>absurd h (by decide)) ?_;go_simp
 refine tV 20 (.pointer (some ⟨q,9,none⟩)) rfl (fun h=>absurd h (by decide)) ?_;go_simp
 refine zL 21 rfl (fun K hK=>?_)
 go_simp
 refine hK.out _ _ ?_
 clear hK K
 try go_simp
 refine zE (by kernel_rfl) ?_ _
 have B2:Hid (Bx ((V1.setCell ⟨q,8,none⟩ (.int .i64 (s.regs x))).setCell ⟨q,9,none⟩ (.int .i64 (s.regs y))) q {o with a:=s.regs x,b:=s.regs y}):=B1.out.ab _ _
 have hg:=zex V1 q 8 9 (.int .i64 (s.regs x)) (.int .i64 (s.regs y))
 have S2:Hid (St N ((V1.setCell ⟨q,8,none⟩ (.int .i64 (s.regs x))).setCell ⟨q,9,none⟩ (.int .i64 (s.regs y))) b s L):=S1.out.other hg HA.out
 have T2:Hid (Toq b q w L ((V1.setCell ⟨q,8,none⟩ (.int .i64 (s.regs x))).setCell ⟨q,9,none⟩ (.int .i64 (s.regs y))) L):=T1.out.trans (zax hg)
 clear hg hH kx ky c8 c9 f8 f9 S1 B1 T1 x0 x1 y0 y1
 generalize (V1.setCell ⟨q,8,none⟩ (.int .i64 (s.regs x))).setCell ⟨q,9,none⟩ (.int .i64 (s.regs y))=V2 at*
 have E3:Hid (namO s o=if o.rd=0 then(s,{o with a:=s.regs x,b:=s.regs y})else({s with regs:=up s.regs o.rd (s.free.headD 0),free:=s.free.tail,th:=upB s.th (s.free.headD 0) false},(Dg.mk o.seq o.pc o.i o.st (s.regs x) (s.regs y) o.rd (s.free.headD 0) (s.regs o.rd) o.next o.gs o.late o.car o.c))):=by show _=_;unfold namO;rw[HX.out,HY.out]
 clear HX HY
 obtain⟨k,hk⟩:∃k,k=o.rd:=⟨_,rfl⟩
 rw[<-hk]at hr hf
 have HK:Hid (k=o.rd):=hk
 have c10:V2.cell? ⟨q,10,none⟩=some (.int .i64 (k:Int)):=zl B2.out 10 (by rw[hk];rfl)
 rw[<-hk]at E3
 by_cases h0:k=0
 ·have hb0:((k:Int) != 0)=false:=by simp[h0]
  have c10':V2.cell? ⟨q,10,none⟩=some (.int .i64 0):=by rw[c10,h0];rfl
  have EE:=E3.out
  rw[if_pos h0]at EE
  have F1:Hid (r1=s):=E1.out.trans (congrArg Prod.fst EE)
  have F2:Hid (r2={o with a:=s.regs x,b:=s.regs y}):=E2.out.trans ((congrArg Prod.snd EE).trans (by rw[hk]))
  clear EE E3 E1 E2 c10 hb0 hk HK h0 hf
  go_wp2_with fail
  refine bodyPost_end (results_none rfl _ _ _) rfl ⟨rfl,L,?_⟩
  rw[F1.out,F2.out]
  exact⟨S2.out.dr,B2.out,HA.out,T2.out.dr⟩
 ·have hb0:((k:Int) != 0)=true:=by simp[h0]
  have EE:=E3.out
  rw[if_neg h0]at EE
  have F1:Hid (r1={s with regs:=up s.regs k (s.free.headD 0),free:=s.free.tail,th:=upB s.th (s.free.headD 0) false}):=E1.out.trans (congrArg Prod.fst EE)
  have F2:Hid (r2=(Dg.mk o.seq o.pc o.i o.st (s.regs x) (s.regs y) o.rd (s.free.headD 0) (s.regs k) o.next o.gs o.late o.car o.c)):=E2.out.trans ((congrArg Prod.snd EE).trans (by rw[hk]))
  obtain⟨z,hz⟩:∃z:Nat,s.free.headD 0=(z:Int):=Int.eq_ofNat_of_zero_le (by
   have:=hN.dis.rf
   cases hfr:s.free with
   |nil=>exact absurd hfr (hf h0)
   |cons a l=>rw[hfr]at this;exact(this a (Ab ..)).1)
  have hz1:z<96:=by
   have h1:=hN.dis.rf
   have h2:=hN.high
   cases hfr:s.free with
   |nil=>exact absurd hfr (hf h0)
   |cons a l=>
    rw[hfr]at h1 hz
    have:=(h1 a (Ab ..)).2
    have:a=(z:Int):=hz
    omega
  have CT:Hid (∀W,Below V2.heap.size V2 W->Calls prog 137 #[.agg (rowOf (mat s.phys s.regs L.f) 34),.int .i64 (k:Int)] W fun e w'=>(∃a c,e=.returned (.tuple #[.agg (rowOf (mat s.phys (up s.regs k (z:Int)) (.slice a s.free.tail.length c)) 34),.int .i64 (z:Int),.int .i64 (s.regs k),.bool true])/\Re.Lie w' a s.free.tail.length c (fun i=>s.free.tail.getD i 0)/\FarC W.heap.size a)/\Below W.heap.size W w'):=fun W hW=>by
   have:=zps S2.out hN k h0 hr (hf h0) W hW
   rw[hz,Array.toArray_toList]at this
   exact this
  obtain⟨fl,hfl⟩:∃fl,fl=s.free.tail:=⟨_,rfl⟩
  rw[<-hfl]at CT
  rw[hz,<-hfl]at F1
  rw[hz]at F2
  clear EE E3 E1 E2 hk HK hf hz hN hfl
  go_upto_region 3 with fail
  refine zq (S:=fun w'=>w'.rangeAt b 107 (mpL s L)/\w'.cell? ⟨q,10,none⟩=some (.int .i64 (k:Int))) [19,22,25] (by kernel_rfl) (⟨S2.out.names,c10⟩) (fun hH=>?_)
  refine tU 0 (.pointer (some ⟨b,0,none⟩)) ?_;go_simp
  refine tU 1 (.pointer (some ⟨q,0,none⟩)) ?_;go_simp
  refine tU 2 (.pointer (some ⟨q,0,none⟩)) ?_;go_simp
  refine tU 3 (.pointer (some ⟨b,0,none⟩)) ?_;go_simp
  refine tU 4 (.pointer (some ⟨b,0,none⟩)) ?_;go_simp
  refine tU 5 (.pointer (some ⟨b,107,none⟩)) ?_;go_simp
  refine tS 6 (.agg (mpL s L).toArray) rfl (yieldsIf_load_mid (by rfl) 59 _ rfl _ _ rfl (mpL s L) _ (fun wz hSw=>hSw.1) underlying59 rfl (jb _ _ _)) hH ?_;go_simp
  refine tU 7 (.pointer (some ⟨q,0,none⟩)) ?_;go_simp
  refine tU 8 (.pointer (some ⟨q,0,none⟩)) ?_;go_simp
  refine tU 9 (.pointer (some ⟨q,10,none⟩)) ?_;go_simp
  refine tB 10 (.int .i64 (k:Int)) ?_;go_simp
  refine zC 11 rfl (fun K hK=>?_)
  go_simp
  refine(CT.out _ ((AL _ _).drew.drew)).mono ?_
  rintro e V3 ⟨⟨a3,c3,rfl,hl3,hf3⟩,hk⟩
  have HK:Hid (Below V2.heap.size V2 V3):=zg (zg hk (Ai _)) (Ai _)
  have HL3:Hid (Re.Lie V3 a3 fl.length c3 (fun i=>fl.getD i 0)/\FarC V2.heap.size a3):=⟨hl3,hf3⟩
  clear hl3 hf3
  go_wp2_with fail
  refine hK.out _ _ (⟨xg hk (hH.1),zn hk (hH.2)⟩) (fun hN=>?_)
  clear hK K hH
  have hH:=hN
  clear hN
  try go_simp
  have S3:Hid (St N V3 b s L):=S2.out.below HK.out
  have B3:Hid (Bx V3 q {o with a:=s.regs x,b:=s.regs y}):=B2.out.below HK.out
  obtain⟨S4,T4⟩:=S3.out.setNames (up s.regs k (z:Int)) HL3.out.1 (qV S2.out (Ai _) HL3.out.2)
  have HS4:Hid (St N (V3.setCells b 107 (rowOf (mat s.phys (up s.regs k (z:Int)) (.slice a3 fl.length c3)) 34).toList) b {s with regs:=up s.regs k (z:Int),free:=fl} {L with f:=.slice a3 fl.length c3}):=S4
  have B4:Hid (Bx (V3.setCells b 107 (rowOf (mat s.phys (up s.regs k (z:Int)) (.slice a3 fl.length c3)) 34).toList) q {o with a:=s.regs x,b:=s.regs y}):=B3.out.to T4 HA.out.o
  have T5:Hid (Toq b q w L (V3.setCells b 107 (rowOf (mat s.phys (up s.regs k (z:Int)) (.slice a3 fl.length c3)) 34).toList) {L with f:=.slice a3 fl.length c3}):=(T2.out.trans (ze L HK.out).q).trans T4.q
  have A5:Hid (Apt b q {s with regs:=up s.regs k (z:Int),free:=fl} {L with f:=.slice a3 fl.length c3}):=HA.out.setNames HL3.out.2 B2.out.lt
  clear S4 T4
  refine tU 12 (.tuple #[.agg (rowOf (mat s.phys (up s.regs k (z:Int)) (.slice a3 fl.length c3)) 34),.int .i64 (z:Int),.int .i64 (s.regs k),.bool true]) ?_;go_simp
  refine tU 13 (.agg (rowOf (mat s.phys (up s.regs k (z:Int)) (.slice a3 fl.length c3)) 34)) ?_;go_simp
  refine tU 14 (.int .i64 (z:Int)) ?_;go_simp
  refine tU 15 (.int .i64 (s.regs k)) ?_;go_simp
  refine tU 16 (.bool true) ?_;go_simp
  refine tU 17 (.pointer (some ⟨b,0,none⟩)) ?_;go_simp
  refine tU 18 (.pointer (some ⟨b,107,none⟩)) ?_;go_simp
  refine zL 19 rfl (fun K hK=>?_)
  rw[if_pos (by rfl)]
  refine wp_store_mid 59 _ _ rfl b 107 (rowOf (mat s.phys (up s.regs k (z:Int)) (.slice a3 fl.length c3)) 34) rfl rfl (by rw[zf];exact S3.out.there 107 34 (by omega)) (by have:=jb s.phys (up s.regs k (z:Int)) (.slice a3 fl.length c3);rw[Array.length_toList]at this;exact this) (kv _ _ _ _ _) ?_
  refine hK.out _ _ ?_
  clear hK K
  try go_simp
  refine tV 20 (.pointer (some ⟨q,0,none⟩)) rfl (fun h=>absurd h (by decide)) ?_;go_simp
  refine tV 21 (.pointer (some ⟨q,11,none⟩)) rfl (fun h=>absurd h (by decide)) ?_;go_simp
  clear S3 B3 S2 B2 T2 HA hH HL3 HK CT c10
  generalize V3.setCells b 107 (rowOf (mat s.phys (up s.regs k (z:Int)) (.slice a3 fl.length c3)) 34).toList=V4 at*
  generalize ({L with f:=.slice a3 fl.length c3}:Sls)=L4 at*
  have c11:=zl B4.out 11 (v:=.int .i64 o.to) rfl
  have c12:=zl B4.out 12 (v:=.int .i64 o.old) rfl
  have f11:=qw B4.out 11
  have f12:=qw B4.out 12
  refine zL 22 rfl (fun K hK=>?_)
  go_simp
  refine hK.out _ _ ?_
  clear hK K
  try go_simp
  refine tV 23 (.pointer (some ⟨q,0,none⟩)) rfl (fun h=>absurd h (by decide)) ?_;go_simp
  refine tV 24 (.pointer (some ⟨q,12,none⟩)) rfl (fun h=>absurd h (by decide)) ?_;go_simp
  refine zL 25 rfl (fun K hK=>?_)
  go_simp
  refine hK.out _ _ ?_
  clear hK K
  try go_simp
  refine zE (by kernel_rfl) ?_ _
  have B6:Hid (Bx ((V4.setCell ⟨q,11,none⟩ (.int .i64 (z:Int))).setCell ⟨q,12,none⟩ (.int .i64 (s.regs k))) q (Dg.mk o.seq o.pc o.i o.st (s.regs x) (s.regs y) o.rd (z:Int) (s.regs k) o.next o.gs o.late o.car o.c)):=B4.out.tos _ _
  have hg:=zex V4 q 11 12 (.int .i64 (z:Int)) (.int .i64 (s.regs k))
  have S6:Hid (St N ((V4.setCell ⟨q,11,none⟩ (.int .i64 (z:Int))).setCell ⟨q,12,none⟩ (.int .i64 (s.regs k))) b {s with regs:=up s.regs k (z:Int),free:=fl} L4):=HS4.out.other hg A5.out
  have T6:Hid (Toq b q w L ((V4.setCell ⟨q,11,none⟩ (.int .i64 (z:Int))).setCell ⟨q,12,none⟩ (.int .i64 (s.regs k))) L4):=T5.out.trans (zax hg)
  clear hg HS4 B4 T5 c11 c12 f11 f12
  generalize (V4.setCell ⟨q,11,none⟩ (.int .i64 (z:Int))).setCell ⟨q,12,none⟩ (.int .i64 (s.regs k))=V6 at*
  have c11:V6.cell? ⟨q,11,none⟩=some (.int .i64 (z:Int)):=zl B6.out 11 rfl
  have cA:=S6.out.thr z hz1
  have fA:=S6.out.frozen (237+z)
  have z0:0<=(z:Int):=by omega
  have z1:(z:Int)<96:=by omega
  go_upto_region 4 with fail
  refine zq (S:=fun w'=>w'.cell? ⟨q,11,none⟩=some (.int .i64 (z:Int))) [8] (by kernel_rfl) (c11) (fun hH=>?_)
  refine tU 0 (.pointer (some ⟨b,0,none⟩)) ?_;go_simp
  refine tU 1 (.pointer (some ⟨q,0,none⟩)) ?_;go_simp
  refine tU 2 (.pointer (some ⟨q,0,none⟩)) ?_;go_simp
  refine tU 3 (.pointer (some ⟨q,11,none⟩)) ?_;go_simp
  refine tS 4 (.int .i64 (z:Int)) rfl (Or.inl ⟨by rfl,by intro wz hSw;have hc:=hSw;go_simp⟩) hH ?_;go_simp
  refine tU 5 (.pointer (some ⟨b,0,none⟩)) ?_;go_simp
  refine tU 6 (.pointer (some ⟨b,237,none⟩)) ?_;go_simp
  refine tU 7 (.pointer (some ⟨b,237+z,none⟩)) ?_;go_simp
  refine zL 8 rfl (fun K hK=>?_)
  go_simp
  refine hK.out _ _ ?_
  clear hK K
  try go_simp
  refine zE (by kernel_rfl) ?_ _
  go_wp2_with fail
  refine bodyPost_end (results_none rfl _ _ _) rfl ⟨rfl,L4,?_⟩
  obtain⟨S7,T7⟩:=S6.out.setTh z hz1 false
  rw[F1.out,F2.out]
  exact⟨S7.dr,(B6.out.to T7 A5.out.o).dr,A5.out.th _,(T6.out.trans T7.q).dr⟩
end Go.Proofs.YtpiohehijkpghacGreatDoor.Co
namespace Go.Proofs.YtpiohehijkpghacGreatDoor.Co
open Go.RowKit
open Hy
open Wi Od Re.Hy
open Gu.Hy (Tb)
structure MR(M:Mc):Prop where
 dcd:∀{x i},M.dcd x=some i->InOk i
 dow:∀{i} (pc a b:Int) (n:Nat),InOk i->U32 pc->U32 a->U32 b->CmR (M.dow i pc a b n)
 br:∀{t} (pc:Int),Gu.TbOk t->U32 pc->U32 (M.br t pc).2
 va:∀{t} (pc:Int),Gu.TbOk t->U32 (M.va t pc).1
 lb:∀{t} (pc:Int) (tk:Bool) {g:Int},Gu.TbOk t->U32 g->Gu.TbOk (M.lb t pc tk g)
 lv:∀{t} (pc:Int) {v:Int},Gu.TbOk t->U32 pc->U32 v->Gu.TbOk (M.lv t pc v)
structure DgR(o:Dg):Prop where
 pc:U32 o.pc
 i:o.i=zin\/InOk o.i
 next:U32 o.next
 c:CmR o.c
theorem DgR.rd{o:Dg}(h:DgR o):o.i.rd<32:=by
 rcases h.i with e|e
 ·rw[e];decide
 ·exact e.lr
structure Rg(K:Int)(s:Cr):Prop where
 win:s.win<=32
 phys:s.phys<=96
 wide:s.wide<=4
 n:s.n<=4096
 f:∀i,i<s.n->0<=s.f i/\s.f i<=255
 tb:Gu.TbOk s.tb
 wd:∀x,U32 (s.wd x)
 und:∀o∈s.under,DgR o
 ask:∀q∈s.asked,q.Ok
 fro:U32 s.fro
 len:s.slots.length<=32
 lenA:(s.asked.length:Int)<=K
 bck:s.bck<=K
 tak:s.tak<=K
theorem Rg.mono{K K':Int}{s:Cr}(h:Rg K s)(hk:K<=K'):Rg K' s:=
 ⟨h.win,h.phys,h.wide,h.n,h.f,h.tb,h.wd,h.und,h.ask,h.fro,h.len,Int.le_trans h.lenA hk,Int.le_trans h.bck hk,Int.le_trans h.tak hk⟩
theorem zhA{wd:Int->Int}{x v:Int}(h:∀y,U32 (wd y))(hv:U32 v):∀y,U32 (upI wd x v y):=fun y=>by
 unfold upI
 split
 ·exact hv
 ·exact h y
theorem zn8{o:Dg}(h:U32 o.pc):(ownA o).Ok:=⟨h.1,h.2,by show(0:Int)<=0;omega,by show(0:Int)<=_;omega,by show _<=(4:Int);omega,by show(4:Int)<=_;omega⟩
theorem zn9(q:Int):(st0 q).Ok:=⟨by show(0:Int)<=0;omega,by show(0:Int)<=_;omega,by show(0:Int)<=0;omega,by show(0:Int)<=_;omega,by show _<=(0:Int);omega,by show(0:Int)<=_;omega⟩
theorem zpu{q x m:Int}(hx:U32 x)(hm:0<=m/\m<=4):(ldA q x m).Ok:=⟨hx.1,hx.2,by show(0:Int)<=0;omega,by show(0:Int)<=_;omega,by show _<=m;omega,by show m<=_;omega⟩
theorem zkt{q:Int}{c:Cm}(h:CmR c):(stA q c).Ok:=⟨h.pl.1,h.pl.2,h.data.1,h.data.2,by show _<=c.many;rcases h.many with e|e|e|e<;>omega,by show c.many<=_;rcases h.many with e|e|e|e<;>omega⟩
theorem zhB(i:In)(a:Int):U32 (place i a):=umod _
theorem zoa{K:Int}{s:Cr}{o:Dg}(G:Rg K s)(ho:U32 o.pc):Rg (K+2) (askO s o):=by
 unfold askO
 refine⟨G.win,G.phys,G.wide,G.n,G.f,G.tb,G.wd,G.und,fun q hq=>?_,G.fro,G.len,?_,by have:=G.bck;show s.bck<=_;omega,by have:=G.tak;show s.tak<=_;omega⟩
 ·rcases Aj.1 hq with h|h
  ·exact G.ask q h
  ·rcases AF.1 h with rfl|h
   ·exact zn8 ho
   ·split at h
    ·rw[Ar.1 h];exact zn9 _
    ·cases h
 ·have:=G.lenA
  show((s.asked++_:List Ac).length:Int)<=_
  rw[List.length_append]
  split<;>simp<;>omega
theorem zob{K:Int}{s:Cr}{o:Dg}(G:Rg K s)(ho:DgR o):Rg K (namO s o).1/\DgR (namO s o).2:=by
 unfold namO
 split
 ·exact⟨G,ho.pc,ho.i,ho.next,ho.c⟩
 ·exact⟨⟨G.win,G.phys,G.wide,G.n,G.f,G.tb,G.wd,G.und,G.ask,G.fro,G.len,G.lenA,G.bck,G.tak⟩,ho.pc,ho.i,ho.next,ho.c⟩
theorem vL(l:List Sl)(q:Int):(donS l q).length=l.length:=by unfold donS;exact Aq _
theorem zlS{K:Int}{s:Cr}{o:Dg}{k:Int}(G:Rg K s)(ho:DgR o)(hk:0<=k/\k<=6):Rg K (yo s o k).1/\DgR (yo s o k).2:=
 ⟨⟨G.win,G.phys,G.wide,G.n,G.f,G.tb,G.wd,G.und,G.ask,G.fro,by show(donS _ _).length<=_;rw[vL];exact G.len,G.lenA,G.bck,G.tak⟩,ho.pc,ho.i,ho.next,jy ho.pc hk⟩
theorem zoc{M:Mc}(hM:MR M){K:Int}{s:Cr}{o:Dg}(G:Rg K s)(ho:DgR o):Rg K (wayO M s o).1/\U32 (wayO M s o).2:=by
 unfold wayO
 split
 ·exact⟨G,umod _⟩
 ·split
  ·refine⟨⟨G.win,G.phys,G.wide,G.n,G.f,G.tb,G.wd,G.und,G.ask,G.fro,G.len,G.lenA,G.bck,G.tak⟩,?_⟩
   show U32 (if _ then _ else _)
   split
   ·split
    ·exact hM.br _ G.tb ho.pc
    ·exact umod _
   ·exact umod _
  ·exact⟨G,umod _⟩
theorem zod{M:Mc}(hM:MR M){K:Int}{s:Cr}(G:Rg K s)(pc k:Int):U32 (valO M s pc k).1:=by
 unfold valO
 split
 ·exact u0
 ·split
  ·exact umod _
  ·exact hM.va _ G.tb
theorem zlT{M:Mc}(hM:MR M){K:Int}{s:Cr}{o:Dg}(G:Rg K s)(ho:DgR o):Rg K (gueL M s o).1/\DgR (gueL M s o).2:=by
 have hv:=fun k=>zod hM G o.pc k
 unfold gueL
 simp only[]
 split
 ·exact⟨⟨G.win,G.phys,G.wide,G.n,G.f,G.tb,zhA G.wd (hv _),G.und,G.ask,G.fro,G.len,G.lenA,G.bck,G.tak⟩,ho.pc,ho.i,ho.next,ho.c⟩
 ·exact⟨⟨G.win,G.phys,G.wide,G.n,G.f,G.tb,G.wd,G.und,G.ask,G.fro,G.len,G.lenA,G.bck,G.tak⟩,ho.pc,ho.i,ho.next,ho.c⟩
theorem zoe{M:Mc}(hM:MR M){K:Int}{s:Cr}{o:Dg}(G:Rg K s)(ho:DgR o):Rg K (gueO M s o).1/\DgR (gueO M s o).2:=by
 obtain⟨G1,hw⟩:=zoc hM G ho
 have G2:Rg K {(wayO M s o).1 with fro:=(wayO M s o).2}:=⟨G1.win,G1.phys,G1.wide,G1.n,G1.f,G1.tb,G1.wd,G1.und,G1.ask,hw,G1.len,G1.lenA,G1.bck,G1.tak⟩
 have ho2:DgR {o with next:=(wayO M s o).2}:=⟨ho.pc,ho.i,hw,ho.c⟩
 unfold gueO
 simp only[]
 split
 ·exact⟨G2,ho2⟩
 ·exact zlT hM G2 ho2
theorem zey{M:Mc}(hM:MR M)(s:Cr):((rdI M s).1=zin\/InOk (rdI M s).1)/\0<=(rdI M s).2/\(rdI M s).2<=6/\((rdI M s).2=0->InOk (rdI M s).1):=by
 unfold rdI
 split
 ·split
  ·rename_i i h
   exact⟨.inr (hM.dcd h),by show(0:Int)<=0;omega,by show(0:Int)<=6;omega,fun _=>hM.dcd h⟩
  ·exact⟨.inl rfl,by show(0:Int)<=2;omega,by show(2:Int)<=6;omega,fun h=>absurd (show(2:Int)=0 from h) (by decide)⟩
 ·exact⟨.inl rfl,by show(0:Int)<=1;omega,by show(1:Int)<=6;omega,fun h=>absurd (show(1:Int)=0 from h) (by decide)⟩
theorem zof{M:Mc}(hM:MR M){K:Int}{s:Cr}(G:Rg K s):DgR (newO M s):=⟨G.fro,(zey hM s).1,u0,zpm⟩
theorem zlU{K:Int}{s:Cr}(G:Rg K s)(h:¬s.win<=s.slots.length):Rg (K+1) {s with slots:=s.slots++[(s.tak,false)],tak:=s.tak+1}:=
 ⟨G.win,G.phys,G.wide,G.n,G.f,G.tb,G.wd,G.und,G.ask,G.fro,by have:=G.win;show(s.slots++[_]:List Sl).length<=_;simp;omega,by have:=G.lenA;show(s.asked.length:Int)<=_;omega,by have:=G.bck;show s.bck<=_;omega,by have:=G.tak;show s.tak+1<=_;omega⟩
theorem zlV{M:Mc}(hM:MR M){K:Int}{s:Cr}(G:Rg K s):Rg (K+3) (tak1 M s).1:=by
 unfold tak1
 split
 ·exact G.mono (by omega)
 ·rename_i hw
  split
  ·exact G.mono (by omega)
  ·have G1:=zlU G hw
   have G2:=zoa G1 (o:=newO M s) G.fro
   obtain⟨G3,D3⟩:=zob G2 (zof hM G)
   have key:∀t:Cr×Dg,Rg (K+1+2) t.1->DgR t.2->Rg (K+3) {t.1 with under:=t.1.under++[t.2]}:=fun t h0 d=>by
    have h:Rg (K+3) t.1:=h0.mono (by omega)
    refine⟨h.win,h.phys,h.wide,h.n,h.f,h.tb,h.wd,fun o ho=>?_,h.ask,h.fro,h.len,h.lenA,h.bck,h.tak⟩
    rcases Aj.1 (show o∈t.1.under++[t.2]from ho)with ho|ho
    ·exact h.und o ho
    ·rw[Ar.1 ho];exact d
   simp only[]
   split
   ·obtain⟨G4,D4⟩:=zlS (k:=(rdI M s).2) G3 D3 ⟨(zey hM s).2.1,(zey hM s).2.2.1⟩
    exact key _ G4 D4
   ·obtain⟨G4,D4⟩:=zoe hM G3 D3
    exact key _ G4 D4
theorem zhC{K:Int}{s:Cr}(G:Rg K s)(q pc:Int)(hp:U32 pc):Rg (K+1) (back s q pc):=by
 unfold back
 refine⟨G.win,G.phys,G.wide,G.n,G.f,G.tb,G.wd,fun o ho=>G.und o (Ah.1 ho).1,fun a ha=>G.ask a (Ah.1 ha).1,hp,?_,?_,?_,by have:=G.tak;show s.tak<=_;omega⟩
 ·show(vd s.slots q).length<=_
  unfold vd
  exact Nat.le_trans (Ak _ _) G.len
 ·show((s.asked.filter _).length:Int)<=_
  have:=Ak (fun a:Ac=>!decide (q<=a.seq)) s.asked
  have:=G.lenA
  omega
 ·have:=G.bck
  show(if cutS s.slots q=[]then s.bck else s.bck+1)<=K+1
  split
  ·exact Int.le_trans this (by omega)
  ·omega
theorem zez(l:List Ac)(q:Int)(e:Ac):(setA l q e).length=l.length:=by unfold setA;exact Aq _
theorem zlW{K:Int}{s:Cr}{q:Int}{c:Cm}(G:Rg K s)(hc:CmR c):Rg K {s with asked:=setA s.asked q (stA q c)}:=by
 refine⟨G.win,G.phys,G.wide,G.n,G.f,G.tb,G.wd,G.und,fun a ha=>?_,G.fro,G.len,by show((setA _ _ _).length:Int)<=_;rw[zez];exact G.lenA,G.bck,G.tak⟩
 obtain⟨p,hp,rfl⟩:=Am.1 ha
 split
 ·exact zkt hc
 ·exact G.ask p hp
theorem zlX{l:List Dg}(h:∀o∈l,DgR o)(q:Int):U32 (pcOf l q):=by
 unfold pcOf
 split
 ·rename_i o ho
  exact(h o (Az ho)).pc
 ·exact u0
theorem zhD{K:Int}{s:Cr}{q:Int}{c:Cm}(G:Rg K s)(hc:CmR c):Rg (K+1) (settle s q c):=by
 have G1:=zlW (q:=q) G hc
 unfold settle
 simp only[]
 split
 ·exact G1.mono (by omega)
 ·exact zhC G1 _ _ (zlX G.und _)
theorem zlY{l:List Dg}{q:Int}{g:Dg->Dg}(h:∀o∈l,DgR o)(hg:∀o,DgR o->DgR (g o)):∀o∈putO l q g,DgR o:=fun o ho=>by
 obtain⟨p,hp,rfl⟩:=Am.1 ho
 split
 ·exact hg p (h p hp)
 ·exact h p hp
theorem zhE{K:Int}{s:Cr}(q:Int)(g:Dg->Dg)(G:Rg K s)(hg:∀o,DgR o->DgR (g o)):Rg K {s with under:=putO s.under q g}:=
 ⟨G.win,G.phys,G.wide,G.n,G.f,G.tb,G.wd,zlY G.und hg,G.ask,G.fro,G.len,G.lenA,G.bck,G.tak⟩
theorem zhF{K:Int}{s:Cr}{o:Dg}{c:Cm}(G:Rg K s)(hc:CmR c):Rg K {s with under:=putO s.under o.seq (fun o=>{o with st:=2,c:=c}),slots:=donS s.slots o.seq}:=by
 have:=zhE o.seq (fun o=>{o with st:=2,c:=c}) G (fun o h=>⟨h.pc,h.i,h.next,hc⟩)
 exact⟨this.win,this.phys,this.wide,this.n,this.f,this.tb,this.wd,this.und,this.ask,this.fro,by show(donS _ _).length<=_;rw[vL];exact G.len,this.lenA,this.bck,this.tak⟩
theorem zlZ{K:Int}{s:Cr}{o:Dg}{c:Cm}(G:Rg K s)(hc:CmR c):Rg (K+1) (fin1 s o c):=by
 unfold fin1
 simp only[]
 split
 ·exact zhD (zhF G hc) hc
 ·exact(zhF G hc).mono (by omega)
theorem zl0{K:Int}{s:Cr}{o:Dg}{c:Cm}(G:Rg K s)(hc:CmR c):Rg K (qX s o c):=by
 unfold qX
 split
 ·exact G
 ·exact⟨G.win,G.phys,G.wide,G.n,G.f,G.tb,zhA G.wd hc.val,G.und,G.ask,G.fro,G.len,G.lenA,G.bck,G.tak⟩
theorem zog{K:Int}{s:Cr}(p:Bool)(G:Rg K s):Rg K {s with opn:=p}:=⟨G.win,G.phys,G.wide,G.n,G.f,G.tb,G.wd,G.und,G.ask,G.fro,G.len,G.lenA,G.bck,G.tak⟩
theorem vM{K:Int}{s:Cr}{o:Dg}{c:Cm}(G:Rg K s)(hc:CmR c):Rg (K+2) (finish s o c):=by
 have G1:=zl0 (o:=o) (zlZ (o:=o) G hc) hc
 unfold finish
 split
 ·exact G1.mono (by omega)
 ·exact(zog _ (zhC G1 (o.seq+1) c.next hc.next)).mono (by omega)
theorem zhG{op:Int}{g:Nat->Int}(h0:ldn op≠0)(h:∀k:Nat,(k:Int)<ldn op->0<=g k/\g k<=255):U32 (ldv op g):=by
 unfold ldv
 split
 ·rename_i e
  have:=h 0 (by rw[e];decide)
  unfold U32
  split<;>omega
 ·split
  ·rename_i e
   have h1:=h 0 (by rw[e];decide)
   have h2:=h 1 (by rw[e];decide)
   have h3:le g 2=g 0+256*g 1:=by simp[le];omega
   unfold U32
   split<;>omega
  ·have:=yk op
   exact le_rng (by omega) fun i hi=>h i (by omega)
theorem zku{K:Int}{s:Cr}{q x m:Int}(G:Rg K s)(hx:U32 x)(hm:0<=m/\m<=4):Rg (K+1) {s with asked:=s.asked++[ldA q x m]}:=by
 refine⟨G.win,G.phys,G.wide,G.n,G.f,G.tb,G.wd,G.und,fun a ha=>?_,G.fro,G.len,by have:=G.lenA;show((s.asked++[_]:List Ac).length:Int)<=_;simp;omega,by have:=G.bck;show s.bck<=_;omega,by have:=G.tak;show s.tak<=_;omega⟩
 rcases Aj.1 ha with h|h
 ·exact G.ask a h
 ·rw[Ar.1 h];exact zpu hx hm
theorem zl1{K:Int}{s:Cr}{o:Dg}(G:Rg K s)(ho:DgR o)(h0:ldn o.i.op≠0)(hf:fits s.n (place o.i (s.wd o.a)) (ldn o.i.op)=true):CmR (onC o.pc o.i.rd (ldv o.i.op (sb s.asked o.seq s.asked.length (place o.i (s.wd o.a)).toNat s.f))):=by
 have hp:=jw hf
 exact zeq ho.pc ho.rd (zhG h0 fun k hk=>zbG (G.f _ (by omega)))
theorem zl2{K:Int}{s:Cr}{o:Dg}(G:Rg K s)(ho:DgR o)(h0:ldn o.i.op≠0):Rg (K+3) (lod1 s o):=by
 unfold lod1
 simp only[]
 split
 ·rename_i hf
  split
  ·exact G.mono (by omega)
  ·exact(vM (zku G (zhB _ _) (yk _)) (zl1 G ho h0 hf)).mono (by omega)
 ·exact(vM G (jy ho.pc (by omega))).mono (by omega)
theorem zl3{K:Int}{s:Cr}{q:Int}(G:Rg K s)(h:∀o∈s.under,o.seq=q->ldn o.i.op≠0):Rg (K+3) (lodS s q):=by
 unfold lodS
 split
 ·exact G.mono (by omega)
 ·rename_i o ho
  have hm:=Az ho
  have hq:o.seq=q:=by simpa using List.find?_some ho
  split
  ·exact(zhE q (fun o=>{o with late:=o.late-1}) G (fun o h=>⟨h.pc,h.i,h.next,h.c⟩)).mono (K':=K+3) (by omega)
  ·exact zl2 G (G.und o hm) (h o hm hq)
theorem zl4{M:Mc}(hM:MR M){K:Int}{s:Cr}{o:Dg}(G:Rg K s)(ho:DgR o)(hi:InOk o.i):Rg (K+2) (sta1 M s o):=by
 unfold sta1
 split
 ·exact(zhE o.seq (fun o=>{o with st:=1}) G (fun o h=>⟨h.pc,h.i,h.next,h.c⟩)).mono (K':=K+2) (by omega)
 ·exact vM G (hM.dow _ _ _ _ hi ho.pc (G.wd _) (G.wd _))
theorem zjz{M:Mc}(hM:MR M){t:Tb}{o:Dg}(ht:Gu.TbOk t)(ho:DgR o):Gu.TbOk (learn M t o):=by
 have h1:Gu.TbOk (if trn o.i then M.lb t o.pc (decide (o.i.op=4)||!decide (o.c.next=(o.pc+4)%4294967296)) o.c.next else t):=by
  split
  ·exact hM.lb _ _ ht ho.c.next
  ·exact ht
 unfold learn
 simp only[]
 split
 ·exact hM.lv _ h1 ho.pc ho.c.val
 ·exact h1
theorem zl5{n:Nat}{f:Nat->Int}{c:Cm}(h:∀i,i<n->0<=f i/\f i<=255):∀i,i<n->0<=stoC f c i/\stoC f c i<=255:=fun i hi=>by
 unfold stoC sto
 split
 ·omega
 ·exact h i hi
theorem zl6{M:Mc}(hM:MR M){K:Int}{s:Cr}{o:Dg}(G:Rg K s)(ho:DgR o):Rg K (com1 M s o):=
 ⟨G.win,G.phys,G.wide,G.n,zl5 G.f,zjz hM G.tb ho,G.wd,G.und,G.ask,G.fro,G.len,G.lenA,G.bck,G.tak⟩
theorem zbg{M:Mc}(hM:MR M){K:Int}:∀(l:List Dg) {s:Cr},Rg K s->(∀o∈l,DgR o)->Rg K (l.foldl (com1 M) s)
 |[],s,G,_=>G
 |o::l,s,G,h=>zbg hM l (zl6 hM G (h o (Ab ..))) (fun p hp=>h p (Aa _ hp))
theorem js(M:Mc):∀(l:List Dg) (s:Cr),(l.foldl (com1 M) s).under=s.under/\(l.foldl (com1 M) s).asked=s.asked/\(l.foldl (com1 M) s).slots=s.slots
 |[],s=>⟨rfl,rfl,rfl⟩
 |o::l,s=>js M l (com1 M s o)
theorem zhH{M:Mc}(hM:MR M){K:Int}{s:Cr}(G:Rg K s):Rg K (commit M s):=by
 have G1:=zbg hM (s.under.take (qT s.slots (min s.wide (left s)).toNat)) G (fun o ho=>G.und o (AE ho))
 unfold commit
 refine⟨G1.win,G1.phys,G1.wide,G1.n,G1.f,G1.tb,G1.wd,fun o ho=>G.und o (List.mem_of_mem_drop ho),fun a ha=>G.ask a (Ah.1 ha).1,G1.fro,?_,?_,G1.bck,G1.tak⟩
 ·have:=G.len
  show(s.slots.drop _).length<=_
  rw[List.length_drop]
  omega
 ·have:=G.lenA
  have:=Ak (fun q:Ac=>!decide (q.seq∈(s.slots.take (qT s.slots (min s.wide (left s)).toNat)).map (·.1))) s.asked
  show((s.asked.filter _).length:Int)<=_
  omega
theorem zjA(win phys wide:Int)(n:Nat)(R:Nat->Int)(pc st ca:Int)(f:Nat->Int)(scr:List Int)(hw:win<=32)(hp:phys<=96)(hwi:wide<=4)(hn:n<=4096)(hf:∀i,i<n->0<=f i/\f i<=255)(hR:∀i,i<32->U32 (R i))(hpc:U32 pc):Rg 0 (begin win phys wide n R pc st ca f scr):=by
 refine⟨hw,hp,hwi,hn,hf,⟨fun _ _=>u0,fun _ _=>u0,fun _ _=>u0,fun _ _=>u0⟩,fun x=>?_,fun o ho=>(nomatch ho),fun o ho=>(nomatch ho),hpc,Nat.zero_le _,AA _,AA _,AA _⟩
 show U32 (if x<32 then R x.toNat else 0)
 split
 ·exact hR _ (by omega)
 ·exact u0
end Go.Proofs.YtpiohehijkpghacGreatDoor.Co
namespace Go.Proofs.YtpiohehijkpghacGreatDoor.Co
open Go.RowKit
open Hy
open Wi Od Re.Hy
open Gu.Hy (Tb)
def Uq(l:List Ac):Prop:=((l.filter (·.st)).map (·.seq)).Nodup
theorem zce{l:List Ac}(h:Uq l)(p:Ac->Bool):Uq (l.filter p):=by
 unfold Uq at*
 exact h.sublist ((List.filter_sublist.filter _).map _)
theorem zdn{l:List Ac}(h:Uq l){a:Ac}(ha:a.st=false):Uq (l++[a]):=by
 unfold Uq at*
 rw[Ay,WZ (by simp[ha])]
 simpa using h
theorem zoh{l:List Ac}(h:Uq l)(q:Int){e:Ac}(h1:e.st=true)(h2:e.seq=q):Uq (setA l q e):=by
 have key:∀l:List Ac,((setA l q e).filter (·.st)).map (·.seq)=(l.filter (·.st)).map (·.seq):=by
  intro l
  induction l with
  |nil=>rfl
  |cons a l ih=>
   show((((if a.st=true/\a.seq=q then e else a)::setA l q e)).filter (·.st)).map (·.seq)=_
   by_cases hc:a.st=true/\a.seq=q
   ·rw[if_pos hc,Ad h1,Ad hc.1,Aw,Aw,ih,h2,hc.2]
   ·rw[if_neg hc]
    by_cases ha:a.st=true
    ·rw[Ad ha,Ad ha,Aw,Aw,ih]
    ·rw[WZ ha,WZ ha,ih]
 unfold Uq
 rw[key]
 exact h
theorem zoi{s:Cr}{o:Dg}(h:Uq s.asked)(hl:∀a∈s.asked,a.seq<o.seq):Uq (askO s o).asked:=by
 have h1:Uq (s.asked++[ownA o]):=zdn h rfl
 show Uq (s.asked++(ownA o::_))
 split
 ·show Uq (s.asked++[ownA o,st0 o.seq])
  rw[show s.asked++[ownA o,st0 o.seq]=(s.asked++[ownA o])++[st0 o.seq] by simp]
  unfold Uq at*
  rw[Ay,Ad rfl,Ax]
  refine AG.2 ⟨h1,by simp,fun x hx y hy e=>?_⟩
  obtain⟨a,ha,rfl⟩:=Am.1 hx
  have hy:y=o.seq:=by simpa[st0]using hy
  obtain⟨ha1,ha2⟩:=Ah.1 ha
  rcases Aj.1 ha1 with h'|h'
  ·have:=hl a h';omega
  ·rw[Ar.1 h']at ha2;cases ha2
 ·exact h1
theorem zhI{s:Cr}(h:Uq s.asked)(q pc:Int):Uq (back s q pc).asked:=zce h _
theorem zhJ{s:Cr}(h:Uq s.asked)(q:Int)(c:Cm):Uq (settle s q c).asked:=by
 have h1:Uq (setA s.asked q (stA q c)):=zoh h q rfl rfl
 unfold settle
 simp only[]
 split
 ·exact h1
 ·exact zhI (s:={s with asked:=setA s.asked q (stA q c)}) h1 _ _
theorem zl7{s:Cr}(h:Uq s.asked)(o:Dg)(c:Cm):Uq (fin1 s o c).asked:=by
 unfold fin1
 simp only[]
 split
 ·exact zhJ (by exact h) _ _
 ·exact h
theorem vN{s:Cr}(h:Uq s.asked)(o:Dg)(c:Cm):Uq (finish s o c).asked:=by
 have h2:Uq (qX (fin1 s o c) o c).asked:=by rw[jU];exact zl7 h o c
 unfold finish
 split
 ·exact h2
 ·exact zhI h2 (o.seq+1) c.next
theorem zl8{s:Cr}(h:Uq s.asked)(q:Int):Uq (lodS s q).asked:=by
 unfold lodS
 split
 ·exact h
 ·split
  ·exact h
  ·unfold lod1
   simp only[]
   split
   ·split
    ·exact h
    ·exact vN (s:={s with asked:=_}) (zdn h rfl) _ _
   ·exact vN h _ _
theorem zl9{M:Mc}{s:Cr}(h:Uq s.asked)(o:Dg):Uq (sta1 M s o).asked:=by
 unfold sta1
 split
 ·exact h
 ·exact vN h _ _
theorem zcf(s:Cr)(o:Dg):(namO s o).1.asked=s.asked:=by unfold namO;split<;>rfl
theorem vO(M:Mc)(s:Cr)(o:Dg):(wayO M s o).1.asked=s.asked:=by
 unfold wayO
 split
 ·rfl
 ·split<;>rfl
theorem zhK(M:Mc)(s:Cr)(o:Dg):(gueO M s o).1.asked=s.asked:=by
 unfold gueO
 simp only[]
 split
 ·exact vO M s o
 ·unfold gueL
  simp only[]
  split
  ·exact vO M s o
  ·exact vO M s o
theorem zma{M:Mc}{s:Cr}(h:Uq s.asked)(hl:∀a∈s.asked,a.seq<s.tak):Uq (tak1 M s).1.asked:=by
 unfold tak1
 split
 ·exact h
 ·split
  ·exact h
  ·have h1:=zoi (s:={s with slots:=s.slots++[(s.tak,false)],tak:=s.tak+1}) (o:=newO M s) h hl
   simp only[]
   split
   ·show Uq (namO _ _).1.asked
    rw[zcf]
    exact h1
   ·show Uq (gueO M _ _).1.asked
    rw[zhK,zcf]
    exact h1
theorem zmb{M:Mc}{s:Cr}{m:Nat->Int}(I:Inv M s m):∀a∈s.asked,a.seq<s.tak:=fun a ha=>by
 obtain⟨o,ho,e,_⟩:=I.ask.of a ha
 have:=I.low o ho
 omega
theorem zhL{l:List Ac}(h:Uq l){q:Int}{m:Nat}(hm:FirstA (fun a=>a.st&&decide (a.seq=q)) l m)(hlt:m<l.length)(e:Ac):setA l q e=l.set m e:=by
 apply List.ext_getElem?
 intro j
 unfold setA
 rw[WY,AB]
 by_cases hj:m=j
 ·subst hj
  rw[if_pos rfl,if_pos hlt,Ap hlt]
  have:=hm.yes _ (Ap hlt)
  simp at this
  show some (if _ then e else _)=_
  rw[if_pos this]
 ·rw[if_neg hj]
  cases hq:l[j]? with
  |none=>rfl
  |some a=>
   show some (if _ then e else a)=some a
   rw[if_neg]
   rintro⟨h1,h2⟩
   rcases Nat.lt_or_ge j m with hlt'|hge
   ·have:=hm.no j a hlt' hq
    simp[h1,h2]at this
   ·have hx:=hm.yes _ (Ap hlt)
    simp at hx
    obtain⟨l1,l2,hl,hl1⟩:∃l1 l2,l=l1++l[m]::l2/\l1.length=m:=⟨l.take m,l.drop (m+1),by rw[<-List.drop_eq_getElem_cons hlt,List.take_append_drop],by rw[AH];omega⟩
    have ha:a∈l2:=by
     rw[hl]at hq
     rw[Ag (by omega),List.getElem?_cons,if_neg (by omega)]at hq
     exact Ae hq
    unfold Uq at h
    rw[hl,Ay,Ad hx.1,Ax,Aw]at h
    have:=(AD.1 (AG.1 h).2.1).1
    exact this (Am.2 ⟨a,Ah.2 ⟨ha,h1⟩,by rw[h2,hx.2]⟩)
theorem zfv{l:List Ac}{q:Int}{m:Nat}(hm:FirstA (fun a=>a.st&&decide (a.seq=q)) l m)(hlt:m<l.length){e:Ac}(h1:e.st=true)(h2:e.kn=true)(h3:e.seq=q):FirstA (sto1 q) (l.set m e) m/\(l.set m e)[m]?=some e:=by
 have he:(l.set m e)[m]?=some e:=by rw[AB,if_pos rfl,if_pos hlt]
 refine⟨⟨by rw[List.length_set];omega,fun j a hj ha=>?_,fun a ha=>?_⟩,he⟩
 ·rw[AB,if_neg (by omega)]at ha
  have:=hm.no j a hj ha
  unfold sto1
  cases h:a.st with
  |false=>rfl
  |true=>rw[h]at this;simp at this;simp[this]
 ·rw[he]at ha
  have:=Option.some.inj ha
  subst this
  simp[sto1,h1,h2,h3]
theorem zhM{l:List Ac}{p:Ac->Bool}(h:∃a∈l,p a=true):∃m,FirstA p l m/\m<l.length:=by
 obtain⟨m,hm⟩:=kg p l
 refine⟨m,hm,An fun hn=>?_⟩
 obtain⟨a,ha,hp⟩:=h
 obtain⟨j,hj⟩:=List.getElem?_of_mem ha
 have hjl:=(List.getElem?_eq_some_iff.1 hj).1
 have:=hm.no j a (by omega) hj
 rw[hp]at this
 cases this
theorem zdo{l l1 l2:List Dg}{o:Dg}(hu:l=l1++o::l2)(hr:Rise l)(g:Dg->Dg):putO l o.seq g=l.set l1.length (g o)/\l[l1.length]?=some o:=by
 subst hu
 refine⟨?_,by simp⟩
 rw[vt hr,Au _ _ (Ai _),AK]
 rfl
theorem jP{l l1 l2:List Dg}{o:Dg}(hu:l=l1++o::l2)(hr:Rise l):FirstD (fun p=>decide (p.seq=o.seq)) l l1.length:=by
 subst hu
 refine⟨by simp,fun j q hj hq=>?_,fun q hq=>?_⟩
 ·rw[Ao hj]at hq
  have:=(zw.1 hr).2.2 q (Ae hq) o (Ab ..)
  simp
  omega
 ·rw[Ag (Ai _)]at hq
  simp at hq
  simp[hq]
theorem zbh{l:List Dg}{q:Int}(h:l.find? (fun p=>decide (p.seq=q))=none):FirstD (fun p=>decide (p.seq=q)) l l.length:=by
 refine⟨Ai _,fun j p hj hp=>?_,fun p hp=>by simp at hp⟩
 have:=List.find?_eq_none.1 h p (Ae hp)
 simpa using this
theorem zmc{l l1 l2:List Dg}{o:Dg}(hu:l=l1++o::l2)(hr:Rise l)(h2:o.st≠2):DonAt (l.map slot) o.seq l1.length:=by
 subst hu
 refine⟨⟨by simp,fun j q hj hq=>?_,fun q hq=>?_⟩,by simp,?_⟩
 ·rw[WY]at hq
  obtain⟨p,hp,rfl⟩:=AC.1 hq
  rw[Ao hj]at hp
  have:=(zw.1 hr).2.2 p (Ae hp) o (Ab ..)
  unfold waits slot
  have e:decide (p.seq=o.seq)=false:=decide_eq_false (by omega)
  simp[e]
 ·rw[WY,Ag (Ai _)]at hq
  simp at hq
  subst hq
  simp[waits,slot,h2]
 ·have:=zcS hr (o':={o with st:=2}) (by show(o.seq,decide ((2:Int)=2))=_;rfl)
  rw[this,Ax,Ax,Au _ _ (by simp)]
  simp[slot]
theorem zfw{M:Mc}{s:Cr}{m:Nat->Int}(I:Inv M s m):First (above s.tak) s.slots s.slots.length:=by
 refine⟨Ai _,fun j q hj hq=>?_,fun q hq=>by simp at hq⟩
 rw[I.slo,WY]at hq
 obtain⟨p,hp,rfl⟩:=AC.1 hq
 have:=I.low p (Ae hp)
 unfold above slot
 exact decide_eq_false (by show¬s.tak<=p.seq;omega)
theorem zhN{l:List Sl}{q:Int}(h:∀p∈l,p.1<q):DonAt (l++[(q,false)]) q l.length:=by
 refine⟨⟨by simp,fun j p hj hp=>?_,fun p hp=>?_⟩,by simp,?_⟩
 ·rw[Ao hj]at hp
  have:=h p (Ae hp)
  unfold waits
  have e:decide (p.1=q)=false:=decide_eq_false (by omega)
  simp[e]
 ·rw[Ag (Ai _)]at hp
  simp at hp
  subst hp
  simp[waits]
 ·rw[zec (fun p hp=>by have:=h p hp;omega),Au _ _ (Ai _),AK]
  rfl
theorem zmd{M:Mc}{s:Cr}{m:Nat->Int}(I:Inv M s m):∀p∈s.slots,p.1<s.tak:=fun p hp=>by
 rw[I.slo]at hp
 obtain⟨o,ho,rfl⟩:=Am.1 hp
 exact(I.low o ho).2
theorem zcg{M:Mc}(hM:MOk M){s:Cr}{m:Nat->Int}(I:Inv M s m):Dis s.phys s.regs s.free:=by
 have:=Dis.mE (l1:=s.under) (l2:=[]) (fr:=s.free) (m:=m) (by rw[List.append_nil];exact I.dis) (zd8 hM I.ch)
 rw[I.reg]at this
 exact this
theorem zoj{M:Mc}(hM:MOk M){s:Cr}{m:Nat->Int}(I:Inv M s m)(h1:33<=s.phys)(h2:s.phys<=96):Nms s:=⟨h1,h2,zcg hM I⟩
theorem kD{M:Mc}(hM:MOk M){s:Cr}{m:Nat->Int}(I:Inv M s m){o:Dg}(ho:o∈s.under)(h2:s.phys<=96):(0<=o.a/\o.a<96)/\(0<=o.b/\o.b<96)/\o.rd<32/\(o.rd≠0->0<=o.to/\o.to<96):=by
 obtain⟨l1,l2,hu,hloc⟩:=xb I.ch ho
 obtain⟨h3,h4,h5⟩:=kO hM hloc
 have hd:=Dis.mE (l1:=l1) (l2:=o::l2) (fr:=s.free) (m:=m) (by rw[<-hu];exact I.dis) (fun q hq=>zd8 hM I.ch q (by rw[hu];exact Af _ hq))
 have ha:=hd.rm _ h4
 have hb:=hd.rm _ h5
 rw[<-hloc.a]at ha
 rw[<-hloc.b]at hb
 refine⟨⟨ha.1,by omega⟩,⟨hb.1,by omega⟩,h3,fun h0=>?_⟩
 have:=hd.rf o.to (by rw[zQ,if_neg h0];simp)
 exact⟨this.1,by omega⟩
theorem zjB{P:Int}{m:Nat->Int}{o:Dg}{t:List Dg}{fr:List Int}(hd:Dis P m (tos (o::t)++fr))(hk:o.rd<32)(h0:o.rd≠0)(ho:o.old=m o.rd):
  Dis P (nm m o) (tos t++fr)/\0<=o.old/\o.old<P/\o.old∉tos t++fr/\(∀r,r<32->nm m o r≠o.old)/\up (nm m o) o.rd o.old=m/\nm m o o.rd=o.to:=by
 have hd2:=Dis.nm hd hk
 have hr:=hd.rm _ hk
 have hap:=hd.apart _ hk
 rw[zQ,if_neg h0,AI]at hap hd
 have hnm:nm m o=up m o.rd o.to:=by unfold nm;rw[if_neg h0]
 refine⟨hd2,by rw[ho];exact hr.1,by rw[ho];exact hr.2,fun h=>hap (by rw[<-ho];exact Aa _ h),fun r hr' e=>?_,?_,?_⟩
 ·rw[hnm,ho]at e
  unfold Re.Hy.up at e
  split at e
  ·exact hap (by rw[<-e];exact Ab ..)
  ·rename_i hne
   exact hne (hd.inj r o.rd hr' hk e)
 ·rw[hnm,ho]
  funext r
  unfold Re.Hy.up
  split
  ·rename_i e;rw[e]
  ·rfl
 ·rw[hnm]
  unfold Re.Hy.up
  rw[if_pos rfl]
theorem zhO:∀(l:List Sl) (k:Int),Goes l k (qT l k.toNat)
 |[],k=>⟨by simp[qT],fun j q h=>by simp[qT]at h,fun q h=>by simp at h⟩
 |q::l,k=>by
  by_cases hk:0<k
  ·obtain⟨j,hj⟩:∃j:Nat,k.toNat=j+1:=⟨k.toNat-1,by omega⟩
   have ih:=zhO l (k-1)
   have e:(k-1).toNat=j:=by omega
   rw[e]at ih
   rw[hj]
   unfold qT
   split
   ·rename_i hq
    refine⟨by have:=ih.le;simp;omega,fun i p hi hp=>?_,fun p hp=>?_⟩
    ·cases i with
     |zero=>simp at hp;subst hp;exact⟨by show(0:Int)<k;omega,hq⟩
     |succ i=>
      have:=ih.go i p (by omega) (by simpa using hp)
      exact⟨by have:=this.1;push_cast;omega,this.2⟩
    ·have:=ih.stop p (by simpa using hp)
     intro⟨h1,h2⟩
     exact this ⟨by push_cast at h1;omega,h2⟩
   ·rename_i hq
    refine⟨by simp,fun i p hi=>absurd hi (by omega),fun p hp=>?_⟩
    simp at hp
    subst hp
    exact fun h=>hq h.2
  ·have e:k.toNat=0:=by omega
   rw[e]
   have e2:qT (q::l) 0=0:=by simp[qT]
   rw[e2]
   exact⟨by simp,fun i p hi=>absurd hi (by omega),fun p hp h=>hk (by have:=h.1;simpa using this)⟩
theorem zhP{M:Mc}(hM:MOk M):∀(k:Nat) (s:Cr) (m:Nat->Int),Inv M s m->k<s.under.length->(∀o∈s.under.take (k+1),o.st=2)->∃m' o l,Inv M (comN M k s) m'/\(comN M k s).under=o::l/\s.under[k]?=some o/\o.st=2
 |0,s,m,I,hk,hd=>by
  cases hu:s.under with
  |nil=>rw[hu]at hk;simp at hk
  |cons o l=>
   refine⟨m,o,l,by rw[jm];exact I,by rw[jm];exact hu,rfl,hd o (by rw[hu];simp)⟩
 |k+1,s,m,I,hk,hd=>by
  cases hu:s.under with
  |nil=>rw[hu]at hk;simp at hk
  |cons o l=>
   have h2:o.st=2:=hd o (by rw[hu];simp)
   have hl:l≠[]:=fun h=>by rw[hu,h]at hk;simp at hk
   have h0:o.c.st=0:=An fun h=>by
    have:=I.ch
    rw[hu]at this
    exact hl (this.2.1 ⟨h2,h⟩)
   have I':=zed hM I hu h2 h0
   rw[zbW I hu k]
   obtain⟨m',p,l',g1,g2,g3,g4⟩:=zhP hM k (pop1 M s o l) (nm m o) I' (by show k<l.length;rw[hu]at hk;simp at hk;omega) (fun q hq=>hd q (by rw[hu,List.take_succ_cons];exact Aa _ hq))
   exact⟨m',p,l',g1,g2,by rw[List.getElem?_cons_succ];exact g3,g4⟩
theorem zjC{P:Int}{m:Nat->Int}{o:Dg}{l:List Dg}{fr:List Int}(hd:Dis P m (tos (o::l)++fr))(hk:o.rd<32)(h0:o.rd≠0)(ho:o.old=m o.rd):
  0<=o.old/\o.old<P/\o.old∉fr/\∀r,r<32->mE m (o::l) r≠o.old:=by
 have hr:=hd.rm _ hk
 have hap:=hd.apart _ hk
 rw[zQ,if_neg h0,AI]at hap hd
 refine⟨by rw[ho];exact hr.1,by rw[ho];exact hr.2,fun h=>hap (by rw[<-ho];exact Aa _ (Av _ h)),fun r hr' e=>?_⟩
 have e2:mE m (o::l)=mE (nm m o) l:=rfl
 rw[e2,ho]at e
 rcases zaU l (nm m o) r with⟨r',rfl,h⟩|h
 ·rw[h]at e
  unfold nm at e
  rw[if_neg h0]at e
  unfold Re.Hy.up at e
  split at e
  ·exact hap (by rw[<-e];exact Ab ..)
  ·rename_i hne
   exact hne (hd.inj r' o.rd hr' hk e)
 ·rw[e]at h
  exact hap (Aa _ (Af _ h))
def MS(M:Mc):Prop:=∀{x i} (pc a b:Int) (n:Nat),M.dcd x=some i->ldn i.op=0->(M.dow i pc a b n).many≠0->sts i=true/\(M.dow i pc a b n).many=stn i.op/\fits n (M.dow i pc a b n).pl (stn i.op)=true
theorem zme{M:Mc}(hM:MOk M)(hS:MS M){s:Cr}{m:Nat->Int}(I:Inv M s m){o:Dg}{l:List Dg}(hu:s.under=o::l)(h2:o.st=2)(hm:o.c.many≠0):sts o.i=true/\o.c.many=stn o.i.op/\fits s.n o.c.pl (stn o.i.op)=true:=by
 have hloc:=zad (l1:=[]) (show Ch M s.n s.wd s.th s.pc m s.f ([]++o::l)from hu▸I.ch)
 by_cases hz:(fet M s.n s.f s.pc).2=0
 ·have hc:=hloc.com h2 hz
  have hin:=hloc.ins
  obtain⟨x,hx⟩:=vo (M:=M) hz
  have hin':o.i=(fet M s.n s.f s.pc).1:=hin
  rw[<-hin']at hx
  unfold comC at hc
  split at hc
  ·unfold qc at hc
   exfalso
   apply hm
   rw[hc]
   split<;>rfl
  ·rename_i h0
   have h0':ldn o.i.op=0:=An h0
   rw[hc]at hm⊢
   exact hS _ _ _ _ hx h0' hm
 ·have:=(hloc.bad hz).2
  rw[this]at hm
  exact absurd rfl hm
structure Al(M:Mc)(K:Int)(s:Cr)(m:Nat->Int):Prop where
 inv:Inv M s m
 rg:Rg K s
 uq:Uq s.asked
 low:33<=s.phys
 tak:0<=s.tak
 wid:1<=s.wide
 bck:0<=s.bck
theorem Al.mono{M:Mc}{K K':Int}{s:Cr}{m:Nat->Int}(h:Al M K s m)(hk:K<=K'):Al M K' s m:=⟨h.inv,h.rg.mono hk,h.uq,h.low,h.tak,h.wid,h.bck⟩
theorem Al.nms{M:Mc}(hM:MOk M){K:Int}{s:Cr}{m:Nat->Int}(h:Al M K s m):Nms s:=zoj hM h.inv h.low h.rg.phys
theorem Al.len{M:Mc}{K:Int}{s:Cr}{m:Nat->Int}(h:Al M K s m):s.under.length<=32:=by
 have:=h.rg.len
 rw[h.inv.slo,Aq]at this
 exact this
structure LoadI(M:Mc)(K:Int)(qs:List Int)(s:Cr)(m:Nat->Int):Prop where
 al:Al M K s m
 nod:qs.Nodup
 are:∀q∈qs,∀o∈s.under,o.seq=q->o.st=1
theorem zkv{M:Mc}{s:Cr}{m:Nat->Int}(I:Inv M s m){o:Dg}(ho:o∈s.under)(h:o.st=1):ldn o.i.op≠0:=by
 obtain⟨l1,l2,hu,hloc⟩:=xb I.ch ho
 rcases hloc.sta with e|⟨_,e⟩|e
 ·omega
 ·exact e
 ·omega
theorem zkw{M:Mc}(hR:MR M){s:Cr}{m:Nat->Int}(I:Inv M s m){o:Dg}(ho:o∈s.under)(h:o.st≠2):InOk o.i:=by
 obtain⟨l1,l2,hu,hloc⟩:=xb I.ch ho
 by_cases hz:(fet M s.n (fE s.f l1) (pE s.pc l1)).2=0
 ·obtain⟨x,hx⟩:=vo hz
  rw[<-hloc.ins]at hx
  exact hR.dcd hx
 ·exact absurd (hloc.bad hz).1 h
theorem Step.al{M:Mc}{K:Int}{s t:Cr}{m:Nat->Int}{l1 l2:List Dg}{o o':Dg}(h:Al M K s m)(S:Step s t l1 l2 o o')(I:Inv M t m){K':Int}(hR:Rg K' t)(hU:Uq t.asked)(hb:0<=t.bck):Al M K' t m:=
 ⟨I,hR,hU,by rw[S.same.phys];exact h.low,by rw[S.same.tak];exact h.tak,by rw[S.same.wide];exact h.wid,hb⟩
theorem zjD{s:Cr}(q:Int)(h:0<=s.bck):0<=(lodS s q).bck:=by
 unfold lodS
 split
 ·exact h
 ·split
  ·exact h
  ·unfold lod1
   simp only[]
   split
   ·split
    ·exact h
    ·exact jf _ _ _ h
   ·exact jf _ _ _ h
theorem zjE{M:Mc}{s:Cr}(q:Int)(h:0<=s.bck):0<=(staS M s q).bck:=by
 unfold staS
 split
 ·exact h
 ·unfold sta1
  split
  ·exact h
  ·exact jf _ _ _ h
theorem LoadI.step{M:Mc}(hM:MOk M){K:Int}{q:Int}{qs:List Int}{s:Cr}{m:Nat->Int}(h:LoadI M K (q::qs) s m):LoadI M (K+3) qs (lodS s q) m:=by
 obtain⟨hnq,hn2⟩:=AD.1 h.nod
 have hrg:Rg (K+3) (lodS s q):=zl3 h.al.rg fun o ho e=>zkv h.al.inv ho (h.are q (Ab ..) o ho e)
 have huq:=zl8 h.al.uq q
 have hbk:=zjD q h.al.bck
 cases hf:s.under.find? (fun p=>decide (p.seq=q))with
 |none=>
  have e:lodS s q=s:=by unfold lodS;rw[hf]
  rw[e]
  exact⟨h.al.mono (by omega),hn2,fun p hp=>h.are p (Aa _ hp)⟩
 |some o=>
  obtain⟨l1,l2,hu,rfl⟩:=jK hf
  have h1:=h.are o.seq (Ab ..) o (by rw[hu];simp) rfl
  obtain⟨I',o',S,hs',_⟩:=za0 hM h.al.inv hu h1
  obtain⟨l2',l3,e1,e2⟩:=S.under
  refine⟨S.al h.al I' hrg huq hbk,hn2,fun p hp r hr e=>?_⟩
  refine h.are p (Aa _ hp) r ?_ e
  rw[e2]at hr
  rw[hu,e1]
  rcases Aj.1 hr with h'|h'
  ·exact Af _ h'
  ·rcases AF.1 h' with h'|h'
   ·rw[h',hs']at e;exact absurd hp (by rw[<-e];exact hnq)
   ·exact Av _ (Aa _ (Af _ h'))
theorem LoadI.begin{M:Mc}{K:Int}{s:Cr}{m:Nat->Int}(h:Al M K s m):LoadI M K ((s.under.filter fun o=>decide (o.st=1)).map (·.seq)) s m:=by
 refine⟨h,xu h.inv.rise _,fun q hq o ho e=>?_⟩
 obtain⟨p,hp,rfl⟩:=Am.1 hq
 obtain⟨hp1,hp2⟩:=Ah.1 hp
 rw[jT h.inv.rise ho hp1 e]
 simpa using hp2
structure StartI(M:Mc)(K:Int)(qs:List Int)(s:Cr)(m:Nat->Int):Prop where
 al:Al M K s m
 nod:qs.Nodup
 are:∀q∈qs,∀o∈s.under,o.seq=q->o.st=0/\s.th o.a=true/\s.th o.b=true
theorem zdp{M:Mc}{s:Cr}{l1 l2:List Dg}{o:Dg}(hu:s.under=l1++o::l2)(hr:Rise s.under):staS M s o.seq=sta1 M s o:=by
 unfold staS
 rw[hu,kS (hu▸hr)]
theorem StartI.step{M:Mc}(hM:MOk M)(hR:MR M){K:Int}{q:Int}{qs:List Int}{s:Cr}{m:Nat->Int}(h:StartI M K (q::qs) s m):StartI M (K+2) qs (staS M s q) m:=by
 obtain⟨hnq,hn2⟩:=AD.1 h.nod
 have hbk:=zjE (M:=M) q h.al.bck
 cases hf:s.under.find? (fun p=>decide (p.seq=q))with
 |none=>
  have e:staS M s q=s:=by unfold staS;rw[hf]
  rw[e]
  exact⟨h.al.mono (by omega),hn2,fun p hp=>h.are p (Aa _ hp)⟩
 |some o=>
  obtain⟨l1,l2,hu,rfl⟩:=jK hf
  have ho:o∈s.under:=by rw[hu];simp
  have h1:=h.are o.seq (Ab ..) o ho rfl
  rw[zdp hu h.al.inv.rise]at hbk⊢
  obtain⟨I',o',S,hs',_⟩:=za1 hM h.al.inv hu h1.1 h1.2
  obtain⟨l2',l3,e1,e2⟩:=S.under
  refine⟨S.al h.al I' (zl4 hR h.al.rg (h.al.rg.und o ho) (zkw hR h.al.inv ho (by omega))) (zl9 h.al.uq o) hbk,hn2,fun p hp r hr e=>?_⟩
  have hm:r∈s.under:=by
   rw[e2]at hr
   rw[hu,e1]
   rcases Aj.1 hr with h'|h'
   ·exact Af _ h'
   ·rcases AF.1 h' with h'|h'
    ·rw[h',hs']at e;exact absurd hp (by rw[<-e];exact hnq)
    ·exact Av _ (Aa _ (Af _ h'))
  obtain⟨x1,x2,x3⟩:=h.are p (Aa _ hp) r hm e
  exact⟨x1,S.thr _ x2,S.thr _ x3⟩
theorem zok{M:Mc}{K:Int}{s:Cr}{m:Nat->Int}(h:Al M K s m)(k:List Int):Al M K {s with scr:=k} m:=
 ⟨zgU h.inv k,⟨h.rg.win,h.rg.phys,h.rg.wide,h.rg.n,h.rg.f,h.rg.tb,h.rg.wd,h.rg.und,h.rg.ask,h.rg.fro,h.rg.len,h.rg.lenA,h.rg.bck,h.rg.tak⟩,h.uq,h.low,h.tak,h.wid,h.bck⟩
theorem StartI.begin{M:Mc}{K:Int}{s:Cr}{m:Nat->Int}(h:Al M K s m)(k:List Int)(j:Nat):StartI M K ((turn s (ready s)).take j) {s with scr:=k} m:=by
 refine⟨zok h k,(zar (xu h.inv.rise _)).sublist (List.take_sublist _ _),fun q hq o ho e=>?_⟩
 have hq:=zeb.1 (AE hq)
 unfold ready at hq
 obtain⟨p,hp,rfl⟩:=Am.1 hq
 obtain⟨hp1,hp2⟩:=Ah.1 hp
 have ho:o∈s.under:=ho
 rw[jT h.inv.rise ho hp1 e]
 simp at hp2
 exact⟨hp2.1.1,hp2.1.2,hp2.2⟩
theorem Al.take{M:Mc}(hM:MOk M)(hR:MR M){K:Int}{s:Cr}{m:Nat->Int}(h:Al M K s m)(ho:s.opn=true):Al M (K+3) (tak1 M s).1 m:=by
 obtain⟨g1,g2,g3,_,_,_,_,_,_,_,_,_,gp,gw,gb,_⟩:=yC hM h.inv ho h.tak
 have ht:0<=(tak1 M s).1.tak:=by
  have:=h.tak
  by_cases h2:(tak1 M s).2=true
  ·obtain⟨o,_,_,e⟩:=g3 h2;omega
  ·rw[(g2 (by simpa using h2)).1];exact this
 exact⟨g1,zlV hR h.rg,zma h.uq (zmb h.inv),by rw[gp];exact h.low,ht,by rw[gw];exact h.wid,by rw[gb];exact h.bck⟩
theorem zmf{M:Mc}{s:Cr}(k:Nat)(h:Uq s.asked):Uq (comN M k s).asked:=zce h _
theorem zay(M:Mc)(s:Cr):(commit M s).bck=s.bck/\(commit M s).tak=s.tak/\(commit M s).wide=s.wide/\(commit M s).phys=s.phys:=by
 have key:∀(l:List Dg) (s:Cr),(l.foldl (com1 M) s).bck=s.bck/\(l.foldl (com1 M) s).tak=s.tak/\(l.foldl (com1 M) s).wide=s.wide/\(l.foldl (com1 M) s).phys=s.phys:=by
  intro l
  induction l with
  |nil=>intro s;exact⟨rfl,rfl,rfl,rfl⟩
  |cons o l ih=>intro s;exact ih (com1 M s o)
 exact key _ s
theorem LoadI.all{M:Mc}(hM:MOk M):∀{qs:List Int} {K:Int} {s:Cr} {m:Nat->Int},LoadI M K qs s m->Al M (K+3*qs.length) (qs.foldl lodS s) m
 |[],K,s,m,h=>h.al.mono (by simp)
 |q::qs,K,s,m,h=>by
  have:=LoadI.all hM (h.step hM)
  rw[AJ]
  exact this.mono (by simp;omega)
theorem StartI.all{M:Mc}(hM:MOk M)(hR:MR M):∀{qs:List Int} {K:Int} {s:Cr} {m:Nat->Int},StartI M K qs s m->Al M (K+2*qs.length) (qs.foldl (staS M) s) m
 |[],K,s,m,h=>h.al.mono (by simp)
 |q::qs,K,s,m,h=>by
  have:=StartI.all hM hR (h.step hM hR)
  rw[AJ]
  exact this.mono (by simp;omega)
theorem Al.load{M:Mc}(hM:MOk M){K:Int}{s:Cr}{m:Nat->Int}(h:Al M K s m):Al M (K+96) (load s) m:=by
 have:=(LoadI.begin h).all hM
 refine this.mono ?_
 have h1:=Ak (fun o:Dg=>decide (o.st=1)) s.under
 have h2:=h.len
 rw[Aq]
 omega
theorem zeA(M:Mc)(s:Cr):∃k,start M s=((turn s (ready s)).take s.wide.toNat).foldl (staS M) {s with scr:=k}/\((if 1<(ready s).length then chS s else s)={s with scr:=k}):=by
 unfold start
 simp only[]
 split
 ·exact⟨s.scr.tail,rfl,rfl⟩
 ·exact⟨s.scr,rfl,rfl⟩
theorem Al.start{M:Mc}(hM:MOk M)(hR:MR M){K:Int}{s:Cr}{m:Nat->Int}(h:Al M K s m):Al M (K+8) (start M s) m:=by
 obtain⟨k,e,_⟩:=zeA M s
 rw[e]
 refine((StartI.begin h k s.wide.toNat).all hM hR).mono ?_
 have h1:((turn s (ready s)).take s.wide.toNat).length<=s.wide.toNat:=by rw[AH];omega
 have h2:=h.rg.wide
 omega
theorem Al.takes{M:Mc}(hM:MOk M)(hR:MR M):∀(k:Nat) {K:Int} {s:Cr} {m:Nat->Int},Al M K s m->Al M (K+3*k) (takN M k s) m
 |0,K,s,m,h=>h.mono (by omega)
 |k+1,K,s,m,h=>by
  unfold takN
  split
  ·rename_i ho
   split
   ·exact(Al.takes hM hR k (h.take hM hR ho)).mono (by omega)
   ·exact(h.take hM hR ho).mono (by omega)
  ·exact h.mono (by omega)
structure Gd(M:Mc)(h0:Hs)(s:Cr):Prop where
 good:Good M h0 s
 al:s.st=0->∃m,Al M (116*s.cyc) s m
theorem zch{M:Mc}(hM:MOk M)(hR:MR M){h0:Hs}{K:Int}{s:Cr}{m:Nat->Int}(h:Al M K s m)(hs:s.st=0)(hr:Ref M h0 s)(h1:(commit M s).st=0):∃m',Al M K (commit M s) m':=by
 have hk:=yD s.slots (min s.wide (left s)).toNat
 have hlen:qT s.slots (min s.wide (left s)).toNat<=s.under.length:=by
  have:=hk.2
  rw[h.inv.slo,Aq]at this
  rw[h.inv.slo]
  exact this
 have hd:∀o∈s.under.take (qT s.slots (min s.wide (left s)).toNat),o.st=2:=by
  rw[h.inv.slo]
  exact xv s.under _
 obtain⟨_,_,g3,g4⟩:=za3 hM (h:=h0) _ s m h.inv hs hr hlen hd
 obtain⟨m',I'⟩:=g3 h1
 obtain⟨b1,b2,b3,b4⟩:=zay M s
 exact⟨m',I',zhH hR h.rg,zmf _ h.uq,by rw[b4];exact h.low,by rw[b2];exact h.tak,by rw[b3];exact h.wid,by rw[b1];exact h.bck⟩
theorem zkx{M:Mc}{K:Int}{s:Cr}{m:Nat->Int}(h:Al M K s m)(x:Int):Al M K {s with cyc:=x} m:=
 ⟨⟨h.inv.base,h.inv.ch,h.inv.reg,h.inv.en,h.inv.dis,h.inv.cnt,h.inv.rise,h.inv.low,h.inv.slo,h.inv.ask,h.inv.lat⟩,⟨h.rg.win,h.rg.phys,h.rg.wide,h.rg.n,h.rg.f,h.rg.tb,h.rg.wd,h.rg.und,h.rg.ask,h.rg.fro,h.rg.len,h.rg.lenA,h.rg.bck,h.rg.tak⟩,h.uq,h.low,h.tak,h.wid,h.bck⟩
theorem zhQ{M:Mc}{h0:Hs}{s:Cr}(h:Ref M h0 s)(x:Int):Ref M h0 {s with cyc:=x}:=⟨h.is,h.coms,h.runs⟩
theorem zjF{M:Mc}(hM:MOk M)(hR:MR M){h0:Hs}{s:Cr}(G:Gd M h0 s)(hs:s.st=0)(hc6:s.cyc<6000):Gd M h0 (cycle M s):=by
 obtain⟨g1,g2,g3,g4⟩:=kU hM G.good hs hc6
 refine⟨g1,fun h=>?_⟩
 obtain⟨m,A⟩:=G.al hs
 have A1:=zkx A (s.cyc+1)
 rw[g2]
 unfold cycle at h⊢
 simp only[]at h⊢
 by_cases h1:(commit M {s with cyc:=s.cyc+1}).st=0
 ·rw[if_pos h1]
  obtain⟨m',A2⟩:=zch hM hR A1 hs (zhQ G.good.ref _) h1
  have hw:=A.rg.wide
  have hw1:=A.wid
  exact⟨m',((((A2.load hM).start hM hR).takes hM hR s.wide.toNat)).mono (by omega)⟩
 ·rw[if_neg h1]at h
  exact absurd h h1
theorem zjG{M:Mc}(hM:MOk M)(win phys wide:Int)(n:Nat)(R:Nat->Int)(pc st ca:Int)(f:Nat->Int)(scr:List Int)(hw:1<=win)(hw2:win<=32)(hp:33<=phys)(hp2:phys<=96)(hwi:1<=wide)(hwi2:wide<=4)(hn:n<=4096)(hf:∀i,i<n->0<=f i/\f i<=255)(hR:∀i,i<32->U32 (R i))(hpc:U32 pc):Gd M ⟨R,pc,st,ca,f⟩ (begin win phys wide n R pc st ca f scr):=by
 have g:=zas (M:=M) win phys wide n R pc st ca f scr hw hp hp2 hwi
 refine⟨g,fun h=>?_⟩
 obtain⟨m,I⟩:=g.inv h
 exact⟨m,I,zjA win phys wide n R pc st ca f scr hw2 hp2 hwi2 hn hf hR hpc,List.nodup_nil,hp,AA _,hwi,AA _⟩
end Go.Proofs.YtpiohehijkpghacGreatDoor.Co
