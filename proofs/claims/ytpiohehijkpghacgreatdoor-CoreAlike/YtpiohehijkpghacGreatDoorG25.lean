/- A core's numbers stay in their ranges. Plain mathematics. -/
import Derived.Test.YtpiohehijkpghacGreatDoorG24
import Derived.Test.YtpiohehijkpghacGreatDoorG01
import Derived.Test.YtpiohehijkpghacGreatDoorG22
set_option maxRecDepth 20000
set_option maxHeartbeats 1000000
namespace Go.Proofs.YtpiohehijkpghacGreatDoor.Co
open Go.RowKit
open Hy
open Wi Od Re.Hy
open Gu.Hy (Tb tcs)
set_option linter.unusedVariables false
set_option linter.unusedSimpArgs false
theorem St.dr {N:Nat} {w:World} {b:Nat} {s:Cr} {L:Sls} (S:St N w b s L):St N w.drew b s L:=S.below ((Below.refl _ _).drew)
theorem To.dr {b:Nat} {w w':World} {L L':Sls} (h:To b w L w' L'):To b w L w'.drew L':=⟨h.os,h.tape,h.output,h.size,h.block,h.fresh⟩
theorem Toq.dr {b q:Nat} {w w':World} {L L':Sls} (h:Toq b q w L w' L'):Toq b q w L w'.drew L':=⟨h.os,h.tape,h.output,h.size,h.block,h.fresh⟩
theorem Bx.dr {w:World} {q:Nat} {o:Dg} (h:Bx w q o):Bx w.drew q o:=h
theorem grown_dr {w w':World} {row:Option Nat} (h:w.grownBy w' row):w.grownBy w'.drew row:=⟨h.os,h.tape,h.output,h.size,h.block⟩
theorem St.reg {N:Nat} {w:World} {b:Nat} {s:Cr} {L:Sls} (S:St N w b s L) (x:Nat) (hx:x<32):w.cell? ⟨b,108+x,none⟩=some (.int .i64 (s.regs x)):=by
 refine(cell_at S.row (by omega)).trans (congrArg some ?_)
 unfold kat
 rw[if_neg (by omega),if_neg (by omega),if_neg (by omega),if_neg (by omega),if_pos (by omega)]
 unfold mat
 rw[if_neg (by omega),if_pos (by omega)]
 rw[show 108+x-107-1=x by omega]
theorem St.thr {N:Nat} {w:World} {b:Nat} {s:Cr} {L:Sls} (S:St N w b s L) (x:Nat) (hx:x<96):w.cell? ⟨b,237+x,none⟩=some (.bool (s.th (x:Int))):=by
 refine(cell_at S.row (by omega)).trans (congrArg some ?_)
 unfold kat
 rw[if_neg (by omega),if_neg (by omega),if_neg (by omega),if_neg (by omega),if_neg (by omega),if_neg (by omega),if_pos (by omega)]
 rw[show 237+x-237=x by omega]
theorem St.wrd {N:Nat} {w:World} {b:Nat} {s:Cr} {L:Sls} (S:St N w b s L) (x:Nat) (hx:x<96):w.cell? ⟨b,141+x,none⟩=some (.int .u32 (s.wd (x:Int))):=by
 refine(cell_at S.row (by omega)).trans (congrArg some ?_)
 unfold kat
 rw[if_neg (by omega),if_neg (by omega),if_neg (by omega),if_neg (by omega),if_neg (by omega),if_pos (by omega)]
 rw[show 141+x-141=x by omega]
theorem Bx.ab {w:World} {q:Nat} {o:Dg} (h:Bx w q o) (x y:Int):Bx ((w.setCell ⟨q,8,none⟩ (.int .i64 x)).setCell ⟨q,9,none⟩ (.int .i64 y)) q {o with a:=x,b:=y}:=
 Bx.put (o:={o with a:=x}) (Bx.put h 8 _ (by omega) rfl) 9 _ (by omega) rfl
theorem Bx.tos {w:World} {q:Nat} {o:Dg} (h:Bx w q o) (x y:Int):Bx ((w.setCell ⟨q,11,none⟩ (.int .i64 x)).setCell ⟨q,12,none⟩ (.int .i64 y)) q (Dg.mk o.seq o.pc o.i o.st o.a o.b o.rd x y o.next o.gs o.late o.car o.c):=
 Bx.put (o:=(Dg.mk o.seq o.pc o.i o.st o.a o.b o.rd x o.old o.next o.gs o.late o.car o.c)) (Bx.put h 11 _ (by omega) rfl) 12 _ (by omega) rfl
theorem Apt.th {b q:Nat} {s:Cr} {L:Sls} (h:Apt b q s L) (t:Int→Bool):Apt b q {s with th:=t} L:=⟨h.o,h.m,h.f,h.sl,h.r,h.g1,h.g2⟩
theorem two_puts (w:World) (q i j:Nat) (u v:Value):w.grownBy ((w.setCell ⟨q,i,none⟩ u).setCell ⟨q,j,none⟩ v) (some q):=grown_trans (grown_put w q i u) (grown_put _ q j v)
theorem cname_any {N:Nat} {w:World} {b q:Nat} {s:Cr} {L:Sls} {o:Dg} (S:St N w b s L) (B:Bx w q o) (A:Apt b q s L) (hN:Nms s) (hr:o.rd<32) (hra:ra o.i<32) (hrb:rb o.i<32) (hf:o.rd≠0→s.free≠[]):
  Calls Tryz.prog 95 #[.pointer (some ⟨b,0,none⟩),.pointer (some ⟨q,0,none⟩)] w fun e w'=>e=.returned (.tuple #[])∧∃L',St N w' b (namO s o).1 L'∧Bx w' q (namO s o).2∧Apt b q (namO s o).1 L'∧Toq b q w L w' L':=by
 have CR:=fun W=>hReads_any o.i W
 have HS:Hid (St N w b s L):=S
 have HB:Hid (Bx w q o):=B
 have HA:Hid (Apt b q s L):=A
 obtain⟨r1,e1⟩:∃r1:Cr,r1=(namO s o).1:=⟨_,rfl⟩
 obtain⟨r2,e2⟩:∃r2:Dg,r2=(namO s o).2:=⟨_,rfl⟩
 have E1:Hid (r1=(namO s o).1):=e1
 have E2:Hid (r2=(namO s o).2):=e2
 rw[←e1,←e2]
 obtain⟨x,hx⟩:∃x,x=ra o.i:=⟨_,rfl⟩
 obtain⟨y,hy⟩:∃y,y=rb o.i:=⟨_,rfl⟩
 have HX:Hid (x=ra o.i):=hx
 have HY:Hid (y=rb o.i):=hy
 rw[←hx]at CR hra
 rw[←hy]at CR hrb
 have hqb:q≠b:=fun h=>A.o (.inl h)
 clear S B A e1 e2 hx hy
 go_enter Tryz.func95,Tryz.ntmps95
 go_wp2_with(refine wpList_load_mid rfl 78 _ rfl q 2 rfl (ivL o.i).toList _ (ivl_rng HB.out) Tryz.underlying78 rfl (ivl_size _) ?_)
 refine(CR _).mono ?_
 rintro e V1 ⟨rfl,hk⟩
 have S1:Hid (St N V1 b s L):=HS.out.below hk
 have B1:Hid (Bx V1 q o):=HB.out.below hk
 have T1:Hid (Toq b q w L V1 L):=(to_below L hk).q
 clear hk CR HS HB
 have kx:=S1.out.reg x hra
 have ky:=S1.out.reg y hrb
 have c8:=bx_row B1.out 8 (v:=.int .i64 o.a) rfl
 have c9:=bx_row B1.out 9 (v:=.int .i64 o.b) rfl
 have f8:=bx_frozen B1.out 8
 have f9:=bx_frozen B1.out 9
 have x0:0≤(x:Int):=by omega
 have x1:(x:Int)<32:=by omega
 have y0:0≤(y:Int):=by omega
 have y1:(y:Int)<32:=by omega
 go_upto_region 1 with fail
 refine startZ (S:=fun w'=>w'.cell? ⟨b,108+x,none⟩=some (.int .i64 (s.regs x))∧w'.cell? ⟨b,108+y,none⟩=some (.int .i64 (s.regs y))) [18,21] (by kernel_rfl) (⟨kx,ky⟩) (fun hH=>?_)
 refine tU 0 (.pointer (some ⟨q,0,none⟩)) rfl hH ?_;try go_simp
 refine tU 1 (.pointer (some ⟨q,0,none⟩)) rfl hH ?_;try go_simp
 refine tU 2 (.pointer (some ⟨b,0,none⟩)) rfl hH ?_;try go_simp
 refine tU 3 (.int .i64 (x:Int)) rfl hH ?_;try go_simp
 refine tU 4 (.pointer (some ⟨b,0,none⟩)) rfl hH ?_;try go_simp
 refine tU 5 (.pointer (some ⟨b,107,none⟩)) rfl hH ?_;try go_simp
 refine tU 6 (.pointer (some ⟨b,108,none⟩)) rfl hH ?_;try go_simp
 refine tU 7 (.pointer (some ⟨b,108+x,none⟩)) rfl hH ?_;try go_simp
 refine tS 8 (.int .i64 (s.regs x)) rfl (Or.inl ⟨by rfl,by intro wz hSw;have hc:=hSw.1;go_simp⟩) hH ?_;try go_simp
 refine tU 9 (.pointer (some ⟨b,0,none⟩)) rfl hH ?_;try go_simp
 refine tU 10 (.int .i64 (y:Int)) rfl hH ?_;try go_simp
 refine tU 11 (.pointer (some ⟨b,0,none⟩)) rfl hH ?_;try go_simp
 refine tU 12 (.pointer (some ⟨b,107,none⟩)) rfl hH ?_;try go_simp
 refine tU 13 (.pointer (some ⟨b,108,none⟩)) rfl hH ?_;try go_simp
 refine tU 14 (.pointer (some ⟨b,108+y,none⟩)) rfl hH ?_;try go_simp
 refine tS 15 (.int .i64 (s.regs y)) rfl (Or.inl ⟨by rfl,by intro wz hSw;have hc:=hSw.2;go_simp⟩) hH ?_;try go_simp
 refine tU 16 (.pointer (some ⟨q,0,none⟩)) rfl hH ?_;try go_simp
 refine tU 17 (.pointer (some ⟨q,8,none⟩)) rfl hH ?_;try go_simp
 refine zL 18 rfl (fun K hK=>?_)
 go_simp
 refine hK.out _ _ ?_
 clear hK K
 try go_simp
 refine tV 19 (.pointer (some ⟨q,0,none⟩)) rfl (fun h=>absurd h (by decide)) ?_;try go_simp
 refine tV 20 (.pointer (some ⟨q,9,none⟩)) rfl (fun h=>absurd h (by decide)) ?_;try go_simp
 refine zL 21 rfl (fun K hK=>?_)
 go_simp
 refine hK.out _ _ ?_
 clear hK K
 try go_simp
 refine doneZ (by kernel_rfl) ?_ _
 have B2:Hid (Bx ((V1.setCell ⟨q,8,none⟩ (.int .i64 (s.regs x))).setCell ⟨q,9,none⟩ (.int .i64 (s.regs y))) q {o with a:=s.regs x,b:=s.regs y}):=B1.out.ab _ _
 have hg:=two_puts V1 q 8 9 (.int .i64 (s.regs x)) (.int .i64 (s.regs y))
 have S2:Hid (St N ((V1.setCell ⟨q,8,none⟩ (.int .i64 (s.regs x))).setCell ⟨q,9,none⟩ (.int .i64 (s.regs y))) b s L):=S1.out.other hg HA.out
 have T2:Hid (Toq b q w L ((V1.setCell ⟨q,8,none⟩ (.int .i64 (s.regs x))).setCell ⟨q,9,none⟩ (.int .i64 (s.regs y))) L):=T1.out.trans (to_box hg)
 clear hg hH kx ky c8 c9 f8 f9 S1 B1 T1 x0 x1 y0 y1
 generalize (V1.setCell ⟨q,8,none⟩ (.int .i64 (s.regs x))).setCell ⟨q,9,none⟩ (.int .i64 (s.regs y))=V2 at*
 have E3:Hid (namO s o=if o.rd=0 then(s,{o with a:=s.regs x,b:=s.regs y})else({s with regs:=up s.regs o.rd (s.free.headD 0),free:=s.free.tail,th:=upB s.th (s.free.headD 0) false},(Dg.mk o.seq o.pc o.i o.st (s.regs x) (s.regs y) o.rd (s.free.headD 0) (s.regs o.rd) o.next o.gs o.late o.car o.c))):=by show _=_;unfold namO;rw[HX.out,HY.out]
 clear HX HY
 obtain⟨k,hk⟩:∃k,k=o.rd:=⟨_,rfl⟩
 rw[←hk]at hr hf
 have HK:Hid (k=o.rd):=hk
 have c10:V2.cell? ⟨q,10,none⟩=some (.int .i64 (k:Int)):=bx_row B2.out 10 (by rw[hk];rfl)
 rw[←hk]at E3
 by_cases h0:k=0
 ·have hb0:((k:Int) != 0)=false:=by simp[h0]
  have c10':V2.cell? ⟨q,10,none⟩=some (.int .i64 0):=by rw[c10,h0];rfl
  have EE:=E3.out
  rw[if_pos h0]at EE
  have F1:Hid (r1=s):=E1.out.trans (congrArg Prod.fst EE)
  have F2:Hid (r2={o with a:=s.regs x,b:=s.regs y}):=E2.out.trans ((congrArg Prod.snd EE).trans (by rw[hk]))
  clear EE E3 E1 E2 c10 hb0 hk HK h0 hf
  go_wp2_with fail
  refine bodyPost_end (results_none rfl _ _ _) rfl ⟨rfl,L,?_⟩
  rw[F1.out,F2.out]
  exact⟨S2.out.dr,B2.out,HA.out,T2.out.dr⟩
 ·have hb0:((k:Int) != 0)=true:=by simp[h0]
  have EE:=E3.out
  rw[if_neg h0]at EE
  have F1:Hid (r1={s with regs:=up s.regs k (s.free.headD 0),free:=s.free.tail,th:=upB s.th (s.free.headD 0) false}):=E1.out.trans (congrArg Prod.fst EE)
  have F2:Hid (r2=(Dg.mk o.seq o.pc o.i o.st (s.regs x) (s.regs y) o.rd (s.free.headD 0) (s.regs k) o.next o.gs o.late o.car o.c)):=E2.out.trans ((congrArg Prod.snd EE).trans (by rw[hk]))
  obtain⟨z,hz⟩:∃z:Nat,s.free.headD 0=(z:Int):=Int.eq_ofNat_of_zero_le (by
   have:=hN.dis.rf
   cases hfr:s.free with
   |nil=>exact absurd hfr (hf h0)
   |cons a l=>rw[hfr]at this;exact(this a (List.mem_cons_self ..)).1)
  have hz1:z<96:=by
   have h1:=hN.dis.rf
   have h2:=hN.high
   cases hfr:s.free with
   |nil=>exact absurd hfr (hf h0)
   |cons a l=>
    rw[hfr]at h1 hz
    have:=(h1 a (List.mem_cons_self ..)).2
    have:a=(z:Int):=hz
    omega
  have CT:Hid (∀W,Below V2.heap.size V2 W→Calls Tryz.prog 137 #[.agg (rowOf (mat s.phys s.regs L.f) 34),.int .i64 (k:Int)] W fun e w'=>(∃a c,e=.returned (.tuple #[.agg (rowOf (mat s.phys (up s.regs k (z:Int)) (.slice a s.free.tail.length c)) 34),.int .i64 (z:Int),.int .i64 (s.regs k),.bool true])∧Re.Lie w' a s.free.tail.length c (fun i=>s.free.tail.getD i 0)∧FarC W.heap.size a)∧Below W.heap.size W w'):=fun W hW=>by
   have:=cTake S2.out hN k h0 hr (hf h0) W hW
   rw[hz,Array.toArray_toList]at this
   exact this
  obtain⟨fl,hfl⟩:∃fl,fl=s.free.tail:=⟨_,rfl⟩
  rw[←hfl]at CT
  rw[hz,←hfl]at F1
  rw[hz]at F2
  clear EE E3 E1 E2 hk HK hf hz hN hfl
  go_upto_region 3 with fail
  refine startZ (S:=fun w'=>w'.rangeAt b 107 (mpL s L)∧w'.cell? ⟨q,10,none⟩=some (.int .i64 (k:Int))) [19,22,25] (by kernel_rfl) (⟨S2.out.names,c10⟩) (fun hH=>?_)
  refine tU 0 (.pointer (some ⟨b,0,none⟩)) rfl hH ?_;try go_simp
  refine tU 1 (.pointer (some ⟨q,0,none⟩)) rfl hH ?_;try go_simp
  refine tU 2 (.pointer (some ⟨q,0,none⟩)) rfl hH ?_;try go_simp
  refine tU 3 (.pointer (some ⟨b,0,none⟩)) rfl hH ?_;try go_simp
  refine tU 4 (.pointer (some ⟨b,0,none⟩)) rfl hH ?_;try go_simp
  refine tU 5 (.pointer (some ⟨b,107,none⟩)) rfl hH ?_;try go_simp
  refine tS 6 (.agg (mpL s L).toArray) rfl (yieldsIf_load_mid (by rfl) 59 _ rfl _ _ rfl (mpL s L) _ (fun wz hSw=>hSw.1) Tryz.underlying59 rfl (mpL_size _ _ _)) hH ?_;try go_simp
  refine tU 7 (.pointer (some ⟨q,0,none⟩)) rfl hH ?_;try go_simp
  refine tU 8 (.pointer (some ⟨q,0,none⟩)) rfl hH ?_;try go_simp
  refine tU 9 (.pointer (some ⟨q,10,none⟩)) rfl hH ?_;try go_simp
  refine tS 10 (.int .i64 (k:Int)) rfl (Or.inl ⟨by rfl,by intro wz hSw;have hc:=hSw.2;go_simp⟩) hH ?_;try go_simp
  refine zC 11 rfl (fun K hK=>?_)
  go_simp
  refine(CT.out _ ((Below.refl _ _).drew.drew)).mono ?_
  rintro e V3 ⟨⟨a3,c3,rfl,hl3,hf3⟩,hk⟩
  have HK:Hid (Below V2.heap.size V2 V3):=below_first (below_first hk (Nat.le_refl _)) (Nat.le_refl _)
  have HL3:Hid (Re.Lie V3 a3 fl.length c3 (fun i=>fl.getD i 0)∧FarC V2.heap.size a3):=⟨hl3,hf3⟩
  clear hl3 hf3
  go_wp2_with fail
  refine hK.out _ _ (⟨keepR hk (hH.1),keepC hk (hH.2)⟩) (fun hN=>?_)
  clear hK K hH
  have hH:=hN
  clear hN
  try go_simp
  have S3:Hid (St N V3 b s L):=S2.out.below HK.out
  have B3:Hid (Bx V3 q {o with a:=s.regs x,b:=s.regs y}):=B2.out.below HK.out
  obtain⟨S4,T4⟩:=S3.out.setNames (up s.regs k (z:Int)) HL3.out.1 (far_own S2.out (Nat.le_refl _) HL3.out.2)
  have HS4:Hid (St N (V3.setCells b 107 (rowOf (mat s.phys (up s.regs k (z:Int)) (.slice a3 fl.length c3)) 34).toList) b {s with regs:=up s.regs k (z:Int),free:=fl} {L with f:=.slice a3 fl.length c3}):=S4
  have B4:Hid (Bx (V3.setCells b 107 (rowOf (mat s.phys (up s.regs k (z:Int)) (.slice a3 fl.length c3)) 34).toList) q {o with a:=s.regs x,b:=s.regs y}):=B3.out.to T4 HA.out.o
  have T5:Hid (Toq b q w L (V3.setCells b 107 (rowOf (mat s.phys (up s.regs k (z:Int)) (.slice a3 fl.length c3)) 34).toList) {L with f:=.slice a3 fl.length c3}):=(T2.out.trans (to_below L HK.out).q).trans T4.q
  have A5:Hid (Apt b q {s with regs:=up s.regs k (z:Int),free:=fl} {L with f:=.slice a3 fl.length c3}):=HA.out.setNames HL3.out.2 B2.out.lt
  clear S4 T4
  refine tU 12 (.tuple #[.agg (rowOf (mat s.phys (up s.regs k (z:Int)) (.slice a3 fl.length c3)) 34),.int .i64 (z:Int),.int .i64 (s.regs k),.bool true]) rfl hH ?_;try go_simp
  refine tU 13 (.agg (rowOf (mat s.phys (up s.regs k (z:Int)) (.slice a3 fl.length c3)) 34)) rfl hH ?_;try go_simp
  refine tU 14 (.int .i64 (z:Int)) rfl hH ?_;try go_simp
  refine tU 15 (.int .i64 (s.regs k)) rfl hH ?_;try go_simp
  refine tU 16 (.bool true) rfl hH ?_;try go_simp
  refine tU 17 (.pointer (some ⟨b,0,none⟩)) rfl hH ?_;try go_simp
  refine tU 18 (.pointer (some ⟨b,107,none⟩)) rfl hH ?_;try go_simp
  refine zL 19 rfl (fun K hK=>?_)
  rw[if_pos (by rfl)]
  refine wp_store_mid 59 _ _ rfl b 107 (rowOf (mat s.phys (up s.regs k (z:Int)) (.slice a3 fl.length c3)) 34) rfl rfl (by rw[rowOf_size];exact S3.out.there 107 34 (by omega)) (by have:=mpL_size s.phys (up s.regs k (z:Int)) (.slice a3 fl.length c3);rw[Array.length_toList]at this;exact this) (mpL_ones _ _ _ _ _) ?_
  refine hK.out _ _ ?_
  clear hK K
  try go_simp
  refine tV 20 (.pointer (some ⟨q,0,none⟩)) rfl (fun h=>absurd h (by decide)) ?_;try go_simp
  refine tV 21 (.pointer (some ⟨q,11,none⟩)) rfl (fun h=>absurd h (by decide)) ?_;try go_simp
  clear S3 B3 S2 B2 T2 HA hH HL3 HK CT c10
  generalize V3.setCells b 107 (rowOf (mat s.phys (up s.regs k (z:Int)) (.slice a3 fl.length c3)) 34).toList=V4 at*
  generalize ({L with f:=.slice a3 fl.length c3}:Sls)=L4 at*
  have c11:=bx_row B4.out 11 (v:=.int .i64 o.to) rfl
  have c12:=bx_row B4.out 12 (v:=.int .i64 o.old) rfl
  have f11:=bx_frozen B4.out 11
  have f12:=bx_frozen B4.out 12
  refine zL 22 rfl (fun K hK=>?_)
  go_simp
  refine hK.out _ _ ?_
  clear hK K
  try go_simp
  refine tV 23 (.pointer (some ⟨q,0,none⟩)) rfl (fun h=>absurd h (by decide)) ?_;try go_simp
  refine tV 24 (.pointer (some ⟨q,12,none⟩)) rfl (fun h=>absurd h (by decide)) ?_;try go_simp
  refine zL 25 rfl (fun K hK=>?_)
  go_simp
  refine hK.out _ _ ?_
  clear hK K
  try go_simp
  refine doneZ (by kernel_rfl) ?_ _
  have B6:Hid (Bx ((V4.setCell ⟨q,11,none⟩ (.int .i64 (z:Int))).setCell ⟨q,12,none⟩ (.int .i64 (s.regs k))) q (Dg.mk o.seq o.pc o.i o.st (s.regs x) (s.regs y) o.rd (z:Int) (s.regs k) o.next o.gs o.late o.car o.c)):=B4.out.tos _ _
  have hg:=two_puts V4 q 11 12 (.int .i64 (z:Int)) (.int .i64 (s.regs k))
  have S6:Hid (St N ((V4.setCell ⟨q,11,none⟩ (.int .i64 (z:Int))).setCell ⟨q,12,none⟩ (.int .i64 (s.regs k))) b {s with regs:=up s.regs k (z:Int),free:=fl} L4):=HS4.out.other hg A5.out
  have T6:Hid (Toq b q w L ((V4.setCell ⟨q,11,none⟩ (.int .i64 (z:Int))).setCell ⟨q,12,none⟩ (.int .i64 (s.regs k))) L4):=T5.out.trans (to_box hg)
  clear hg HS4 B4 T5 c11 c12 f11 f12
  generalize (V4.setCell ⟨q,11,none⟩ (.int .i64 (z:Int))).setCell ⟨q,12,none⟩ (.int .i64 (s.regs k))=V6 at*
  have c11:V6.cell? ⟨q,11,none⟩=some (.int .i64 (z:Int)):=bx_row B6.out 11 rfl
  have cA:=S6.out.thr z hz1
  have fA:=S6.out.frozen (237+z)
  have z0:0≤(z:Int):=by omega
  have z1:(z:Int)<96:=by omega
  go_upto_region 4 with fail
  refine startZ (S:=fun w'=>w'.cell? ⟨q,11,none⟩=some (.int .i64 (z:Int))) [8] (by kernel_rfl) (c11) (fun hH=>?_)
  refine tU 0 (.pointer (some ⟨b,0,none⟩)) rfl hH ?_;try go_simp
  refine tU 1 (.pointer (some ⟨q,0,none⟩)) rfl hH ?_;try go_simp
  refine tU 2 (.pointer (some ⟨q,0,none⟩)) rfl hH ?_;try go_simp
  refine tU 3 (.pointer (some ⟨q,11,none⟩)) rfl hH ?_;try go_simp
  refine tS 4 (.int .i64 (z:Int)) rfl (Or.inl ⟨by rfl,by intro wz hSw;have hc:=hSw;go_simp⟩) hH ?_;try go_simp
  refine tU 5 (.pointer (some ⟨b,0,none⟩)) rfl hH ?_;try go_simp
  refine tU 6 (.pointer (some ⟨b,237,none⟩)) rfl hH ?_;try go_simp
  refine tU 7 (.pointer (some ⟨b,237+z,none⟩)) rfl hH ?_;try go_simp
  refine zL 8 rfl (fun K hK=>?_)
  go_simp
  refine hK.out _ _ ?_
  clear hK K
  try go_simp
  refine doneZ (by kernel_rfl) ?_ _
  go_wp2_with fail
  refine bodyPost_end (results_none rfl _ _ _) rfl ⟨rfl,L4,?_⟩
  obtain⟨S7,T7⟩:=S6.out.setTh z hz1 false
  rw[F1.out,F2.out]
  exact⟨S7.dr,(B6.out.to T7 A5.out.o).dr,A5.out.th _,(T6.out.trans T7.q).dr⟩
end Go.Proofs.YtpiohehijkpghacGreatDoor.Co
namespace Go.Proofs.YtpiohehijkpghacGreatDoor.Co
open Go.RowKit
open Hy
open Wi Od Re.Hy
open Gu.Hy (Tb)
set_option linter.unusedVariables false
set_option linter.unusedSimpArgs false
structure MR (M:Mc):Prop where
 dcd:∀{x i},M.dcd x=some i→InOk i
 dow:∀{i} (pc a b:Int) (n:Nat),InOk i→U32 pc→U32 a→U32 b→CmR (M.dow i pc a b n)
 br:∀{t} (pc:Int),Gu.TbOk t→U32 pc→U32 (M.br t pc).2
 va:∀{t} (pc:Int),Gu.TbOk t→U32 (M.va t pc).1
 lb:∀{t} (pc:Int) (tk:Bool) {g:Int},Gu.TbOk t→U32 g→Gu.TbOk (M.lb t pc tk g)
 lv:∀{t} (pc:Int) {v:Int},Gu.TbOk t→U32 pc→U32 v→Gu.TbOk (M.lv t pc v)
structure DgR (o:Dg):Prop where
 pc:U32 o.pc
 i:o.i=zin∨InOk o.i
 next:U32 o.next
 c:CmR o.c
theorem DgR.rd {o:Dg} (h:DgR o):o.i.rd<32:=by
 rcases h.i with e|e
 ·rw[e];decide
 ·exact e.lr
structure Rg (K:Int) (s:Cr):Prop where
 win:s.win≤32
 phys:s.phys≤96
 wide:s.wide≤4
 n:s.n≤4096
 f:∀i,i<s.n→0≤s.f i∧s.f i≤255
 tb:Gu.TbOk s.tb
 wd:∀x,U32 (s.wd x)
 und:∀o∈s.under,DgR o
 ask:∀q∈s.asked,q.Ok
 fro:U32 s.fro
 len:s.slots.length≤32
 lenA:(s.asked.length:Int)≤K
 bck:s.bck≤K
 tak:s.tak≤K
theorem Rg.mono {K K':Int} {s:Cr} (h:Rg K s) (hk:K≤K'):Rg K' s:=
 ⟨h.win,h.phys,h.wide,h.n,h.f,h.tb,h.wd,h.und,h.ask,h.fro,h.len,Int.le_trans h.lenA hk,Int.le_trans h.bck hk,Int.le_trans h.tak hk⟩
theorem upI_rng {wd:Int→Int} {x v:Int} (h:∀y,U32 (wd y)) (hv:U32 v):∀y,U32 (upI wd x v y):=fun y=>by
 unfold upI
 split
 ·exact hv
 ·exact h y
theorem ok_own {o:Dg} (h:U32 o.pc):(ownA o).Ok:=⟨h.1,h.2,by show(0:Int)≤0;omega,by show(0:Int)≤_;omega,by show _≤(4:Int);omega,by show(4:Int)≤_;omega⟩
theorem ok_st0 (q:Int):(st0 q).Ok:=⟨by show(0:Int)≤0;omega,by show(0:Int)≤_;omega,by show(0:Int)≤0;omega,by show(0:Int)≤_;omega,by show _≤(0:Int);omega,by show(0:Int)≤_;omega⟩
theorem ok_ld {q x m:Int} (hx:U32 x) (hm:0≤m∧m≤4):(ldA q x m).Ok:=⟨hx.1,hx.2,by show(0:Int)≤0;omega,by show(0:Int)≤_;omega,by show _≤m;omega,by show m≤_;omega⟩
theorem ok_stA {q:Int} {c:Cm} (h:CmR c):(stA q c).Ok:=⟨h.pl.1,h.pl.2,h.data.1,h.data.2,by show _≤c.many;rcases h.many with e|e|e|e<;>omega,by show c.many≤_;rcases h.many with e|e|e|e<;>omega⟩
theorem u_place (i:In) (a:Int):U32 (place i a):=umod _
theorem ask_rg {K:Int} {s:Cr} {o:Dg} (G:Rg K s) (ho:U32 o.pc):Rg (K+2) (askO s o):=by
 unfold askO
 refine⟨G.win,G.phys,G.wide,G.n,G.f,G.tb,G.wd,G.und,fun q hq=>?_,G.fro,G.len,?_,by have:=G.bck;show s.bck≤_;omega,by have:=G.tak;show s.tak≤_;omega⟩
 ·rcases List.mem_append.1 hq with h|h
  ·exact G.ask q h
  ·rcases List.mem_cons.1 h with rfl|h
   ·exact ok_own ho
   ·split at h
    ·rw[List.mem_singleton.1 h];exact ok_st0 _
    ·cases h
 ·have:=G.lenA
  show((s.asked++_:List Ac).length:Int)≤_
  rw[List.length_append]
  split<;>simp<;>omega
theorem nam_rg {K:Int} {s:Cr} {o:Dg} (G:Rg K s) (ho:DgR o):Rg K (namO s o).1∧DgR (namO s o).2:=by
 unfold namO
 split
 ·exact⟨G,ho.pc,ho.i,ho.next,ho.c⟩
 ·exact⟨⟨G.win,G.phys,G.wide,G.n,G.f,G.tb,G.wd,G.und,G.ask,G.fro,G.len,G.lenA,G.bck,G.tak⟩,ho.pc,ho.i,ho.next,ho.c⟩
theorem donS_length (l:List Sl) (q:Int):(donS l q).length=l.length:=by unfold donS;exact List.length_map _
theorem stop_rg {K:Int} {s:Cr} {o:Dg} {k:Int} (G:Rg K s) (ho:DgR o) (hk:0≤k∧k≤6):Rg K (stopO s o k).1∧DgR (stopO s o k).2:=
 ⟨⟨G.win,G.phys,G.wide,G.n,G.f,G.tb,G.wd,G.und,G.ask,G.fro,by show(donS _ _).length≤_;rw[donS_length];exact G.len,G.lenA,G.bck,G.tak⟩,ho.pc,ho.i,ho.next,cmR_trap ho.pc hk⟩
theorem way_rg {M:Mc} (hM:MR M) {K:Int} {s:Cr} {o:Dg} (G:Rg K s) (ho:DgR o):Rg K (wayO M s o).1∧U32 (wayO M s o).2:=by
 unfold wayO
 split
 ·exact⟨G,umod _⟩
 ·split
  ·refine⟨⟨G.win,G.phys,G.wide,G.n,G.f,G.tb,G.wd,G.und,G.ask,G.fro,G.len,G.lenA,G.bck,G.tak⟩,?_⟩
   show U32 (if _ then _ else _)
   split
   ·split
    ·exact hM.br _ G.tb ho.pc
    ·exact umod _
   ·exact umod _
  ·exact⟨G,umod _⟩
theorem val_rg {M:Mc} (hM:MR M) {K:Int} {s:Cr} (G:Rg K s) (pc k:Int):U32 (valO M s pc k).1:=by
 unfold valO
 split
 ·exact u0
 ·split
  ·exact umod _
  ·exact hM.va _ G.tb
theorem gueL_rg {M:Mc} (hM:MR M) {K:Int} {s:Cr} {o:Dg} (G:Rg K s) (ho:DgR o):Rg K (gueL M s o).1∧DgR (gueL M s o).2:=by
 have hv:=fun k=>val_rg hM G o.pc k
 unfold gueL
 simp only[]
 split
 ·exact⟨⟨G.win,G.phys,G.wide,G.n,G.f,G.tb,upI_rng G.wd (hv _),G.und,G.ask,G.fro,G.len,G.lenA,G.bck,G.tak⟩,ho.pc,ho.i,ho.next,ho.c⟩
 ·exact⟨⟨G.win,G.phys,G.wide,G.n,G.f,G.tb,G.wd,G.und,G.ask,G.fro,G.len,G.lenA,G.bck,G.tak⟩,ho.pc,ho.i,ho.next,ho.c⟩
theorem gue_rg {M:Mc} (hM:MR M) {K:Int} {s:Cr} {o:Dg} (G:Rg K s) (ho:DgR o):Rg K (gueO M s o).1∧DgR (gueO M s o).2:=by
 obtain⟨G1,hw⟩:=way_rg hM G ho
 have G2:Rg K {(wayO M s o).1 with fro:=(wayO M s o).2}:=⟨G1.win,G1.phys,G1.wide,G1.n,G1.f,G1.tb,G1.wd,G1.und,G1.ask,hw,G1.len,G1.lenA,G1.bck,G1.tak⟩
 have ho2:DgR {o with next:=(wayO M s o).2}:=⟨ho.pc,ho.i,hw,ho.c⟩
 unfold gueO
 simp only[]
 split
 ·exact⟨G2,ho2⟩
 ·exact gueL_rg hM G2 ho2
theorem rdI_rg {M:Mc} (hM:MR M) (s:Cr):((rdI M s).1=zin∨InOk (rdI M s).1)∧0≤(rdI M s).2∧(rdI M s).2≤6∧((rdI M s).2=0→InOk (rdI M s).1):=by
 unfold rdI
 split
 ·split
  ·rename_i i h
   exact⟨.inr (hM.dcd h),by show(0:Int)≤0;omega,by show(0:Int)≤6;omega,fun _=>hM.dcd h⟩
  ·exact⟨.inl rfl,by show(0:Int)≤2;omega,by show(2:Int)≤6;omega,fun h=>absurd (show(2:Int)=0 from h) (by decide)⟩
 ·exact⟨.inl rfl,by show(0:Int)≤1;omega,by show(1:Int)≤6;omega,fun h=>absurd (show(1:Int)=0 from h) (by decide)⟩
theorem new_rg {M:Mc} (hM:MR M) {K:Int} {s:Cr} (G:Rg K s):DgR (newO M s):=⟨G.fro,(rdI_rg hM s).1,u0,cmR_z⟩
theorem push_rg {K:Int} {s:Cr} (G:Rg K s) (h:¬s.win≤s.slots.length):Rg (K+1) {s with slots:=s.slots++[(s.tak,false)],tak:=s.tak+1}:=
 ⟨G.win,G.phys,G.wide,G.n,G.f,G.tb,G.wd,G.und,G.ask,G.fro,by have:=G.win;show(s.slots++[_]:List Sl).length≤_;simp;omega,by have:=G.lenA;show(s.asked.length:Int)≤_;omega,by have:=G.bck;show s.bck≤_;omega,by have:=G.tak;show s.tak+1≤_;omega⟩
theorem tak1_rg {M:Mc} (hM:MR M) {K:Int} {s:Cr} (G:Rg K s):Rg (K+3) (tak1 M s).1:=by
 unfold tak1
 split
 ·exact G.mono (by omega)
 ·rename_i hw
  split
  ·exact G.mono (by omega)
  ·have G1:=push_rg G hw
   have G2:=ask_rg G1 (o:=newO M s) G.fro
   obtain⟨G3,D3⟩:=nam_rg G2 (new_rg hM G)
   have key:∀t:Cr×Dg,Rg (K+1+2) t.1→DgR t.2→Rg (K+3) {t.1 with under:=t.1.under++[t.2]}:=fun t h0 d=>by
    have h:Rg (K+3) t.1:=h0.mono (by omega)
    refine⟨h.win,h.phys,h.wide,h.n,h.f,h.tb,h.wd,fun o ho=>?_,h.ask,h.fro,h.len,h.lenA,h.bck,h.tak⟩
    rcases List.mem_append.1 (show o∈t.1.under++[t.2]from ho)with ho|ho
    ·exact h.und o ho
    ·rw[List.mem_singleton.1 ho];exact d
   simp only[]
   split
   ·obtain⟨G4,D4⟩:=stop_rg (k:=(rdI M s).2) G3 D3 ⟨(rdI_rg hM s).2.1,(rdI_rg hM s).2.2.1⟩
    exact key _ G4 D4
   ·obtain⟨G4,D4⟩:=gue_rg hM G3 D3
    exact key _ G4 D4
theorem back_rg {K:Int} {s:Cr} (G:Rg K s) (q pc:Int) (hp:U32 pc):Rg (K+1) (back s q pc):=by
 unfold back
 refine⟨G.win,G.phys,G.wide,G.n,G.f,G.tb,G.wd,fun o ho=>G.und o (List.mem_filter.1 ho).1,fun a ha=>G.ask a (List.mem_filter.1 ha).1,hp,?_,?_,?_,by have:=G.tak;show s.tak≤_;omega⟩
 ·show(stayS s.slots q).length≤_
  unfold stayS
  exact Nat.le_trans (List.length_filter_le _ _) G.len
 ·show((s.asked.filter _).length:Int)≤_
  have:=List.length_filter_le (fun a:Ac=>!decide (q≤a.seq)) s.asked
  have:=G.lenA
  omega
 ·have:=G.bck
  show(if cutS s.slots q=[]then s.bck else s.bck+1)≤K+1
  split
  ·exact Int.le_trans this (by omega)
  ·omega
theorem setA_len (l:List Ac) (q:Int) (e:Ac):(setA l q e).length=l.length:=by unfold setA;exact List.length_map _
theorem setA_rg {K:Int} {s:Cr} {q:Int} {c:Cm} (G:Rg K s) (hc:CmR c):Rg K {s with asked:=setA s.asked q (stA q c)}:=by
 refine⟨G.win,G.phys,G.wide,G.n,G.f,G.tb,G.wd,G.und,fun a ha=>?_,G.fro,G.len,by show((setA _ _ _).length:Int)≤_;rw[setA_len];exact G.lenA,G.bck,G.tak⟩
 obtain⟨p,hp,rfl⟩:=List.mem_map.1 ha
 split
 ·exact ok_stA hc
 ·exact G.ask p hp
theorem pcOf_rg {l:List Dg} (h:∀o∈l,DgR o) (q:Int):U32 (pcOf l q):=by
 unfold pcOf
 split
 ·rename_i o ho
  exact(h o (List.mem_of_find?_eq_some ho)).pc
 ·exact u0
theorem settle_rg {K:Int} {s:Cr} {q:Int} {c:Cm} (G:Rg K s) (hc:CmR c):Rg (K+1) (settle s q c):=by
 have G1:=setA_rg (q:=q) G hc
 unfold settle
 simp only[]
 split
 ·exact G1.mono (by omega)
 ·exact back_rg G1 _ _ (pcOf_rg G.und _)
theorem putO_rg {l:List Dg} {q:Int} {g:Dg→Dg} (h:∀o∈l,DgR o) (hg:∀o,DgR o→DgR (g o)):∀o∈putO l q g,DgR o:=fun o ho=>by
 obtain⟨p,hp,rfl⟩:=List.mem_map.1 ho
 split
 ·exact hg p (h p hp)
 ·exact h p hp
theorem put_rg {K:Int} {s:Cr} (q:Int) (g:Dg→Dg) (G:Rg K s) (hg:∀o,DgR o→DgR (g o)):Rg K {s with under:=putO s.under q g}:=
 ⟨G.win,G.phys,G.wide,G.n,G.f,G.tb,G.wd,putO_rg G.und hg,G.ask,G.fro,G.len,G.lenA,G.bck,G.tak⟩
theorem fin0_rg {K:Int} {s:Cr} {o:Dg} {c:Cm} (G:Rg K s) (hc:CmR c):Rg K {s with under:=putO s.under o.seq (fun o=>{o with st:=2,c:=c}),slots:=donS s.slots o.seq}:=by
 have:=put_rg o.seq (fun o=>{o with st:=2,c:=c}) G (fun o h=>⟨h.pc,h.i,h.next,hc⟩)
 exact⟨this.win,this.phys,this.wide,this.n,this.f,this.tb,this.wd,this.und,this.ask,this.fro,by show(donS _ _).length≤_;rw[donS_length];exact G.len,this.lenA,this.bck,this.tak⟩
theorem fin1_rg {K:Int} {s:Cr} {o:Dg} {c:Cm} (G:Rg K s) (hc:CmR c):Rg (K+1) (fin1 s o c):=by
 unfold fin1
 simp only[]
 split
 ·exact settle_rg (fin0_rg G hc) hc
 ·exact(fin0_rg G hc).mono (by omega)
theorem fill_rg {K:Int} {s:Cr} {o:Dg} {c:Cm} (G:Rg K s) (hc:CmR c):Rg K (fillC s o c):=by
 unfold fillC
 split
 ·exact G
 ·exact⟨G.win,G.phys,G.wide,G.n,G.f,G.tb,upI_rng G.wd hc.val,G.und,G.ask,G.fro,G.len,G.lenA,G.bck,G.tak⟩
theorem opn_rg {K:Int} {s:Cr} (p:Bool) (G:Rg K s):Rg K {s with opn:=p}:=⟨G.win,G.phys,G.wide,G.n,G.f,G.tb,G.wd,G.und,G.ask,G.fro,G.len,G.lenA,G.bck,G.tak⟩
theorem finish_rg {K:Int} {s:Cr} {o:Dg} {c:Cm} (G:Rg K s) (hc:CmR c):Rg (K+2) (finish s o c):=by
 have G1:=fill_rg (o:=o) (fin1_rg (o:=o) G hc) hc
 unfold finish
 split
 ·exact G1.mono (by omega)
 ·exact(opn_rg _ (back_rg G1 (o.seq+1) c.next hc.next)).mono (by omega)
theorem ldv_rg {op:Int} {g:Nat→Int} (h0:ldn op≠0) (h:∀k:Nat,(k:Int)<ldn op→0≤g k∧g k≤255):U32 (ldv op g):=by
 unfold ldv
 split
 ·rename_i e
  have:=h 0 (by rw[e];decide)
  unfold U32
  split<;>omega
 ·split
  ·rename_i e
   have h1:=h 0 (by rw[e];decide)
   have h2:=h 1 (by rw[e];decide)
   have h3:le g 2=g 0+256*g 1:=by simp[le];omega
   unfold U32
   split<;>omega
  ·have:=ldn_le op
   exact le_rng (by omega) fun i hi=>h i (by omega)
theorem ldA_rg {K:Int} {s:Cr} {q x m:Int} (G:Rg K s) (hx:U32 x) (hm:0≤m∧m≤4):Rg (K+1) {s with asked:=s.asked++[ldA q x m]}:=by
 refine⟨G.win,G.phys,G.wide,G.n,G.f,G.tb,G.wd,G.und,fun a ha=>?_,G.fro,G.len,by have:=G.lenA;show((s.asked++[_]:List Ac).length:Int)≤_;simp;omega,by have:=G.bck;show s.bck≤_;omega,by have:=G.tak;show s.tak≤_;omega⟩
 rcases List.mem_append.1 ha with h|h
 ·exact G.ask a h
 ·rw[List.mem_singleton.1 h];exact ok_ld hx hm
theorem lodC_rg {K:Int} {s:Cr} {o:Dg} (G:Rg K s) (ho:DgR o) (h0:ldn o.i.op≠0) (hf:fits s.n (place o.i (s.wd o.a)) (ldn o.i.op)=true):CmR (onC o.pc o.i.rd (ldv o.i.op (sb s.asked o.seq s.asked.length (place o.i (s.wd o.a)).toNat s.f))):=by
 have hp:=fits_pos hf
 exact cmR_on ho.pc ho.rd (ldv_rg h0 fun k hk=>sb_rng (G.f _ (by omega)))
theorem lod1_rg {K:Int} {s:Cr} {o:Dg} (G:Rg K s) (ho:DgR o) (h0:ldn o.i.op≠0):Rg (K+3) (lod1 s o):=by
 unfold lod1
 simp only[]
 split
 ·rename_i hf
  split
  ·exact G.mono (by omega)
  ·exact(finish_rg (ldA_rg G (u_place _ _) (ldn_le _)) (lodC_rg G ho h0 hf)).mono (by omega)
 ·exact(finish_rg G (cmR_trap ho.pc (by omega))).mono (by omega)
theorem lodS_rg {K:Int} {s:Cr} {q:Int} (G:Rg K s) (h:∀o∈s.under,o.seq=q→ldn o.i.op≠0):Rg (K+3) (lodS s q):=by
 unfold lodS
 split
 ·exact G.mono (by omega)
 ·rename_i o ho
  have hm:=List.mem_of_find?_eq_some ho
  have hq:o.seq=q:=by simpa using List.find?_some ho
  split
  ·exact(put_rg q (fun o=>{o with late:=o.late-1}) G (fun o h=>⟨h.pc,h.i,h.next,h.c⟩)).mono (K':=K+3) (by omega)
  ·exact lod1_rg G (G.und o hm) (h o hm hq)
theorem sta1_rg {M:Mc} (hM:MR M) {K:Int} {s:Cr} {o:Dg} (G:Rg K s) (ho:DgR o) (hi:InOk o.i):Rg (K+2) (sta1 M s o):=by
 unfold sta1
 split
 ·exact(put_rg o.seq (fun o=>{o with st:=1}) G (fun o h=>⟨h.pc,h.i,h.next,h.c⟩)).mono (K':=K+2) (by omega)
 ·exact finish_rg G (hM.dow _ _ _ _ hi ho.pc (G.wd _) (G.wd _))
theorem learn_rg {M:Mc} (hM:MR M) {t:Tb} {o:Dg} (ht:Gu.TbOk t) (ho:DgR o):Gu.TbOk (learn M t o):=by
 have h1:Gu.TbOk (if trn o.i then M.lb t o.pc (decide (o.i.op=4)||!decide (o.c.next=(o.pc+4)%4294967296)) o.c.next else t):=by
  split
  ·exact hM.lb _ _ ht ho.c.next
  ·exact ht
 unfold learn
 simp only[]
 split
 ·exact hM.lv _ h1 ho.pc ho.c.val
 ·exact h1
theorem stoC_rg {n:Nat} {f:Nat→Int} {c:Cm} (h:∀i,i<n→0≤f i∧f i≤255):∀i,i<n→0≤stoC f c i∧stoC f c i≤255:=fun i hi=>by
 unfold stoC sto
 split
 ·omega
 ·exact h i hi
theorem com1_rg {M:Mc} (hM:MR M) {K:Int} {s:Cr} {o:Dg} (G:Rg K s) (ho:DgR o):Rg K (com1 M s o):=
 ⟨G.win,G.phys,G.wide,G.n,stoC_rg G.f,learn_rg hM G.tb ho,G.wd,G.und,G.ask,G.fro,G.len,G.lenA,G.bck,G.tak⟩
theorem com1s_rg {M:Mc} (hM:MR M) {K:Int}:∀(l:List Dg) {s:Cr},Rg K s→(∀o∈l,DgR o)→Rg K (l.foldl (com1 M) s)
 |[],s,G,_=>G
 |o::l,s,G,h=>com1s_rg hM l (com1_rg hM G (h o (List.mem_cons_self ..))) (fun p hp=>h p (List.mem_cons_of_mem _ hp))
theorem fold_com1_under (M:Mc):∀(l:List Dg) (s:Cr),(l.foldl (com1 M) s).under=s.under∧(l.foldl (com1 M) s).asked=s.asked∧(l.foldl (com1 M) s).slots=s.slots
 |[],s=>⟨rfl,rfl,rfl⟩
 |o::l,s=>fold_com1_under M l (com1 M s o)
theorem commit_rg {M:Mc} (hM:MR M) {K:Int} {s:Cr} (G:Rg K s):Rg K (commit M s):=by
 have G1:=com1s_rg hM (s.under.take (goesN s.slots (min s.wide (left s)).toNat)) G (fun o ho=>G.und o (List.mem_of_mem_take ho))
 unfold commit
 refine⟨G1.win,G1.phys,G1.wide,G1.n,G1.f,G1.tb,G1.wd,fun o ho=>G.und o (List.mem_of_mem_drop ho),fun a ha=>G.ask a (List.mem_filter.1 ha).1,G1.fro,?_,?_,G1.bck,G1.tak⟩
 ·have:=G.len
  show(s.slots.drop _).length≤_
  rw[List.length_drop]
  omega
 ·have:=G.lenA
  have:=List.length_filter_le (fun q:Ac=>!decide (q.seq∈(s.slots.take (goesN s.slots (min s.wide (left s)).toNat)).map (·.1))) s.asked
  show((s.asked.filter _).length:Int)≤_
  omega
theorem begin_rg (win phys wide:Int) (n:Nat) (R:Nat→Int) (pc st ca:Int) (f:Nat→Int) (scr:List Int) (hw:win≤32) (hp:phys≤96) (hwi:wide≤4) (hn:n≤4096) (hf:∀i,i<n→0≤f i∧f i≤255) (hR:∀i,i<32→U32 (R i)) (hpc:U32 pc):Rg 0 (begin win phys wide n R pc st ca f scr):=by
 refine⟨hw,hp,hwi,hn,hf,⟨fun _ _=>u0,fun _ _=>u0,fun _ _=>u0,fun _ _=>u0⟩,fun x=>?_,fun o ho=>(nomatch ho),fun o ho=>(nomatch ho),hpc,Nat.zero_le _,Int.le_refl _,Int.le_refl _,Int.le_refl _⟩
 show U32 (if x<32 then R x.toNat else 0)
 split
 ·exact hR _ (by omega)
 ·exact u0
end Go.Proofs.YtpiohehijkpghacGreatDoor.Co
