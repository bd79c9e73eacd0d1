/- A core that names: the program. -/
import Derived.Test.YtpiohehijkpghabGreatDoorG32
import Derived.Test.YtpiohehijkpghabGreatDoorG01
set_option maxRecDepth 20000
set_option maxHeartbeats 1000000
namespace Go.Proofs.YtpiohehijkpghabGreatDoor.Co
open Go.RowKit
open Hy
open Wi Od Re.Hy
open Gu.Hy (Tb tcs)
set_option linter.unusedVariables false
set_option linter.unusedSimpArgs false
theorem St.dr {N:Nat} {w:World} {b:Nat} {s:Cr} {L:Sls} (S:St N w b s L):St N w.drew b s L:=S.below ((Below.refl _ _).drew)
theorem To.dr {b:Nat} {w w':World} {L L':Sls} (h:To b w L w' L'):To b w L w'.drew L':=⟨h.os,h.tape,h.output,h.size,h.block,h.fresh⟩
theorem Toq.dr {b q:Nat} {w w':World} {L L':Sls} (h:Toq b q w L w' L'):Toq b q w L w'.drew L':=⟨h.os,h.tape,h.output,h.size,h.block,h.fresh⟩
theorem Bx.dr {w:World} {q:Nat} {o:Dg} (h:Bx w q o):Bx w.drew q o:=h
theorem grown_dr {w w':World} {row:Option Nat} (h:w.grownBy w' row):w.grownBy w'.drew row:=⟨h.os,h.tape,h.output,h.size,h.block⟩
theorem St.reg {N:Nat} {w:World} {b:Nat} {s:Cr} {L:Sls} (S:St N w b s L) (x:Nat) (hx:x<32):w.cell? ⟨b,108+x,none⟩=some (.int .i64 (s.regs x)):=by
 refine(cell_at S.row (by omega)).trans (congrArg some ?_)
 unfold kat
 rw[if_neg (by omega),if_neg (by omega),if_neg (by omega),if_neg (by omega),if_pos (by omega)]
 unfold mat
 rw[if_neg (by omega),if_pos (by omega)]
 rw[show 108+x-107-1=x by omega]
theorem St.thr {N:Nat} {w:World} {b:Nat} {s:Cr} {L:Sls} (S:St N w b s L) (x:Nat) (hx:x<96):w.cell? ⟨b,237+x,none⟩=some (.bool (s.th (x:Int))):=by
 refine(cell_at S.row (by omega)).trans (congrArg some ?_)
 unfold kat
 rw[if_neg (by omega),if_neg (by omega),if_neg (by omega),if_neg (by omega),if_neg (by omega),if_neg (by omega),if_pos (by omega)]
 rw[show 237+x-237=x by omega]
theorem St.wrd {N:Nat} {w:World} {b:Nat} {s:Cr} {L:Sls} (S:St N w b s L) (x:Nat) (hx:x<96):w.cell? ⟨b,141+x,none⟩=some (.int .u32 (s.wd (x:Int))):=by
 refine(cell_at S.row (by omega)).trans (congrArg some ?_)
 unfold kat
 rw[if_neg (by omega),if_neg (by omega),if_neg (by omega),if_neg (by omega),if_neg (by omega),if_pos (by omega)]
 rw[show 141+x-141=x by omega]
theorem Bx.ab {w:World} {q:Nat} {o:Dg} (h:Bx w q o) (x y:Int):Bx ((w.setCell ⟨q,8,none⟩ (.int .i64 x)).setCell ⟨q,9,none⟩ (.int .i64 y)) q {o with a:=x,b:=y}:=
 Bx.put (o:={o with a:=x}) (Bx.put h 8 _ (by omega) rfl) 9 _ (by omega) rfl
theorem Bx.tos {w:World} {q:Nat} {o:Dg} (h:Bx w q o) (x y:Int):Bx ((w.setCell ⟨q,11,none⟩ (.int .i64 x)).setCell ⟨q,12,none⟩ (.int .i64 y)) q (Dg.mk o.seq o.pc o.i o.st o.a o.b o.rd x y o.next o.gs o.late o.car o.c):=
 Bx.put (o:=(Dg.mk o.seq o.pc o.i o.st o.a o.b o.rd x o.old o.next o.gs o.late o.car o.c)) (Bx.put h 11 _ (by omega) rfl) 12 _ (by omega) rfl
theorem Apt.th {b q:Nat} {s:Cr} {L:Sls} (h:Apt b q s L) (t:Int→Bool):Apt b q {s with th:=t} L:=⟨h.o,h.m,h.f,h.sl,h.r,h.g1,h.g2⟩
theorem two_puts (w:World) (q i j:Nat) (u v:Value):w.grownBy ((w.setCell ⟨q,i,none⟩ u).setCell ⟨q,j,none⟩ v) (some q):=grown_trans (grown_put w q i u) (grown_put _ q j v)
theorem cname_any {N:Nat} {w:World} {b q:Nat} {s:Cr} {L:Sls} {o:Dg} (S:St N w b s L) (B:Bx w q o) (A:Apt b q s L) (hN:Nms s) (hr:o.rd<32) (hra:ra o.i<32) (hrb:rb o.i<32) (hf:o.rd≠0→s.free≠[]):
  Calls Tryz.prog 80 #[.pointer (some ⟨b,0,none⟩),.pointer (some ⟨q,0,none⟩)] w fun e w'=>e=.returned (.tuple #[])∧∃L',St N w' b (namO s o).1 L'∧Bx w' q (namO s o).2∧Apt b q (namO s o).1 L'∧Toq b q w L w' L':=by
 have CR:=fun W=>hReads_any o.i W
 have HS:Hid (St N w b s L):=S
 have HB:Hid (Bx w q o):=B
 have HA:Hid (Apt b q s L):=A
 obtain⟨r1,e1⟩:∃r1:Cr,r1=(namO s o).1:=⟨_,rfl⟩
 obtain⟨r2,e2⟩:∃r2:Dg,r2=(namO s o).2:=⟨_,rfl⟩
 have E1:Hid (r1=(namO s o).1):=e1
 have E2:Hid (r2=(namO s o).2):=e2
 rw[←e1,←e2]
 obtain⟨x,hx⟩:∃x,x=ra o.i:=⟨_,rfl⟩
 obtain⟨y,hy⟩:∃y,y=rb o.i:=⟨_,rfl⟩
 have HX:Hid (x=ra o.i):=hx
 have HY:Hid (y=rb o.i):=hy
 rw[←hx]at CR hra
 rw[←hy]at CR hrb
 have hqb:q≠b:=fun h=>A.o (.inl h)
 clear S B A e1 e2 hx hy
 go_enter Tryz.func80,Tryz.ntmps80
 go_wp2_with(refine wpList_load_mid rfl 77 _ rfl q 2 rfl (ivL o.i).toList _ (ivl_rng HB.out) Tryz.underlying77 rfl (ivl_size _) ?_)
 refine(CR _).mono ?_
 rintro e V1 ⟨rfl,hk⟩
 have S1:Hid (St N V1 b s L):=HS.out.below hk
 have B1:Hid (Bx V1 q o):=HB.out.below hk
 have T1:Hid (Toq b q w L V1 L):=(to_below L hk).q
 clear hk CR HS HB
 have kx:=S1.out.reg x hra
 have ky:=S1.out.reg y hrb
 have c8:=bx_row B1.out 8 (v:=.int .i64 o.a) rfl
 have c9:=bx_row B1.out 9 (v:=.int .i64 o.b) rfl
 have f8:=bx_frozen B1.out 8
 have f9:=bx_frozen B1.out 9
 have x0:0≤(x:Int):=by omega
 have x1:(x:Int)<32:=by omega
 have y0:0≤(y:Int):=by omega
 have y1:(y:Int)<32:=by omega
 go_upto_region 1 with fail
 refine startZ (S:=fun w'=>w'.cell? ⟨b,108+x,none⟩=some (.int .i64 (s.regs x))∧w'.cell? ⟨b,108+y,none⟩=some (.int .i64 (s.regs y))) [18,21] (by kernel_rfl) (⟨kx,ky⟩) (fun hH=>?_)
 refine tU 0 (.pointer (some ⟨q,0,none⟩)) rfl hH ?_;try go_simp
 refine tU 1 (.pointer (some ⟨q,0,none⟩)) rfl hH ?_;try go_simp
 refine tU 2 (.pointer (some ⟨b,0,none⟩)) rfl hH ?_;try go_simp
 refine tU 3 (.int .i64 (x:Int)) rfl hH ?_;try go_simp
 refine tU 4 (.pointer (some ⟨b,0,none⟩)) rfl hH ?_;try go_simp
 refine tU 5 (.pointer (some ⟨b,107,none⟩)) rfl hH ?_;try go_simp
 refine tU 6 (.pointer (some ⟨b,108,none⟩)) rfl hH ?_;try go_simp
 refine tU 7 (.pointer (some ⟨b,108+x,none⟩)) rfl hH ?_;try go_simp
 refine tS 8 (.int .i64 (s.regs x)) rfl (Or.inl ⟨by rfl,by intro wz hSw;have hc:=hSw.1;go_simp⟩) hH ?_;try go_simp
 refine tU 9 (.pointer (some ⟨b,0,none⟩)) rfl hH ?_;try go_simp
 refine tU 10 (.int .i64 (y:Int)) rfl hH ?_;try go_simp
 refine tU 11 (.pointer (some ⟨b,0,none⟩)) rfl hH ?_;try go_simp
 refine tU 12 (.pointer (some ⟨b,107,none⟩)) rfl hH ?_;try go_simp
 refine tU 13 (.pointer (some ⟨b,108,none⟩)) rfl hH ?_;try go_simp
 refine tU 14 (.pointer (some ⟨b,108+y,none⟩)) rfl hH ?_;try go_simp
 refine tS 15 (.int .i64 (s.regs y)) rfl (Or.inl ⟨by rfl,by intro wz hSw;have hc:=hSw.2;go_simp⟩) hH ?_;try go_simp
 refine tU 16 (.pointer (some ⟨q,0,none⟩)) rfl hH ?_;try go_simp
 refine tU 17 (.pointer (some ⟨q,8,none⟩)) rfl hH ?_;try go_simp
 refine zL 18 rfl (fun K hK=>?_)
 go_simp
 refine hK.out _ _ ?_
 clear hK K
 try go_simp
 refine tV 19 (.pointer (some ⟨q,0,none⟩)) rfl (fun h=>absurd h (by decide)) ?_;try go_simp
 refine tV 20 (.pointer (some ⟨q,9,none⟩)) rfl (fun h=>absurd h (by decide)) ?_;try go_simp
 refine zL 21 rfl (fun K hK=>?_)
 go_simp
 refine hK.out _ _ ?_
 clear hK K
 try go_simp
 refine doneZ (by kernel_rfl) ?_ _
 have B2:Hid (Bx ((V1.setCell ⟨q,8,none⟩ (.int .i64 (s.regs x))).setCell ⟨q,9,none⟩ (.int .i64 (s.regs y))) q {o with a:=s.regs x,b:=s.regs y}):=B1.out.ab _ _
 have hg:=two_puts V1 q 8 9 (.int .i64 (s.regs x)) (.int .i64 (s.regs y))
 have S2:Hid (St N ((V1.setCell ⟨q,8,none⟩ (.int .i64 (s.regs x))).setCell ⟨q,9,none⟩ (.int .i64 (s.regs y))) b s L):=S1.out.other hg HA.out
 have T2:Hid (Toq b q w L ((V1.setCell ⟨q,8,none⟩ (.int .i64 (s.regs x))).setCell ⟨q,9,none⟩ (.int .i64 (s.regs y))) L):=T1.out.trans (to_box hg)
 clear hg hH kx ky c8 c9 f8 f9 S1 B1 T1 x0 x1 y0 y1
 generalize (V1.setCell ⟨q,8,none⟩ (.int .i64 (s.regs x))).setCell ⟨q,9,none⟩ (.int .i64 (s.regs y))=V2 at*
 have E3:Hid (namO s o=if o.rd=0 then(s,{o with a:=s.regs x,b:=s.regs y})else({s with regs:=up s.regs o.rd (s.free.headD 0),free:=s.free.tail,th:=upB s.th (s.free.headD 0) false},(Dg.mk o.seq o.pc o.i o.st (s.regs x) (s.regs y) o.rd (s.free.headD 0) (s.regs o.rd) o.next o.gs o.late o.car o.c))):=by show _=_;unfold namO;rw[HX.out,HY.out]
 clear HX HY
 obtain⟨k,hk⟩:∃k,k=o.rd:=⟨_,rfl⟩
 rw[←hk]at hr hf
 have HK:Hid (k=o.rd):=hk
 have c10:V2.cell? ⟨q,10,none⟩=some (.int .i64 (k:Int)):=bx_row B2.out 10 (by rw[hk];rfl)
 rw[←hk]at E3
 by_cases h0:k=0
 ·have hb0:((k:Int) != 0)=false:=by simp[h0]
  have c10':V2.cell? ⟨q,10,none⟩=some (.int .i64 0):=by rw[c10,h0];rfl
  have EE:=E3.out
  rw[if_pos h0]at EE
  have F1:Hid (r1=s):=E1.out.trans (congrArg Prod.fst EE)
  have F2:Hid (r2={o with a:=s.regs x,b:=s.regs y}):=E2.out.trans ((congrArg Prod.snd EE).trans (by rw[hk]))
  clear EE E3 E1 E2 c10 hb0 hk HK h0 hf
  go_wp2_with fail
  refine bodyPost_end (results_none rfl _ _ _) rfl ⟨rfl,L,?_⟩
  rw[F1.out,F2.out]
  exact⟨S2.out.dr,B2.out,HA.out,T2.out.dr⟩
 ·have hb0:((k:Int) != 0)=true:=by simp[h0]
  have EE:=E3.out
  rw[if_neg h0]at EE
  have F1:Hid (r1={s with regs:=up s.regs k (s.free.headD 0),free:=s.free.tail,th:=upB s.th (s.free.headD 0) false}):=E1.out.trans (congrArg Prod.fst EE)
  have F2:Hid (r2=(Dg.mk o.seq o.pc o.i o.st (s.regs x) (s.regs y) o.rd (s.free.headD 0) (s.regs k) o.next o.gs o.late o.car o.c)):=E2.out.trans ((congrArg Prod.snd EE).trans (by rw[hk]))
  obtain⟨z,hz⟩:∃z:Nat,s.free.headD 0=(z:Int):=Int.eq_ofNat_of_zero_le (by
   have:=hN.dis.rf
   cases hfr:s.free with
   |nil=>exact absurd hfr (hf h0)
   |cons a l=>rw[hfr]at this;exact(this a (List.mem_cons_self ..)).1)
  have hz1:z<96:=by
   have h1:=hN.dis.rf
   have h2:=hN.high
   cases hfr:s.free with
   |nil=>exact absurd hfr (hf h0)
   |cons a l=>
    rw[hfr]at h1 hz
    have:=(h1 a (List.mem_cons_self ..)).2
    have:a=(z:Int):=hz
    omega
  have CT:Hid (∀W,Below V2.heap.size V2 W→Calls Tryz.prog 116 #[.agg (rowOf (mat s.phys s.regs L.f) 34),.int .i64 (k:Int)] W fun e w'=>(∃a c,e=.returned (.tuple #[.agg (rowOf (mat s.phys (up s.regs k (z:Int)) (.slice a s.free.tail.length c)) 34),.int .i64 (z:Int),.int .i64 (s.regs k),.bool true])∧Re.Lie w' a s.free.tail.length c (fun i=>s.free.tail.getD i 0)∧FarC W.heap.size a)∧Below W.heap.size W w'):=fun W hW=>by
   have:=cTake S2.out hN k h0 hr (hf h0) W hW
   rw[hz,Array.toArray_toList]at this
   exact this
  obtain⟨fl,hfl⟩:∃fl,fl=s.free.tail:=⟨_,rfl⟩
  rw[←hfl]at CT
  rw[hz,←hfl]at F1
  rw[hz]at F2
  clear EE E3 E1 E2 hk HK hf hz hN hfl
  go_upto_region 3 with fail
  refine startZ (S:=fun w'=>w'.rangeAt b 107 (mpL s L)∧w'.cell? ⟨q,10,none⟩=some (.int .i64 (k:Int))) [19,22,25] (by kernel_rfl) (⟨S2.out.names,c10⟩) (fun hH=>?_)
  refine tU 0 (.pointer (some ⟨b,0,none⟩)) rfl hH ?_;try go_simp
  refine tU 1 (.pointer (some ⟨q,0,none⟩)) rfl hH ?_;try go_simp
  refine tU 2 (.pointer (some ⟨q,0,none⟩)) rfl hH ?_;try go_simp
  refine tU 3 (.pointer (some ⟨b,0,none⟩)) rfl hH ?_;try go_simp
  refine tU 4 (.pointer (some ⟨b,0,none⟩)) rfl hH ?_;try go_simp
  refine tU 5 (.pointer (some ⟨b,107,none⟩)) rfl hH ?_;try go_simp
  refine tS 6 (.agg (mpL s L).toArray) rfl (yieldsIf_load_mid (by rfl) 54 _ rfl _ _ rfl (mpL s L) _ (fun wz hSw=>hSw.1) Tryz.underlying54 rfl (mpL_size _ _ _)) hH ?_;try go_simp
  refine tU 7 (.pointer (some ⟨q,0,none⟩)) rfl hH ?_;try go_simp
  refine tU 8 (.pointer (some ⟨q,0,none⟩)) rfl hH ?_;try go_simp
  refine tU 9 (.pointer (some ⟨q,10,none⟩)) rfl hH ?_;try go_simp
  refine tS 10 (.int .i64 (k:Int)) rfl (Or.inl ⟨by rfl,by intro wz hSw;have hc:=hSw.2;go_simp⟩) hH ?_;try go_simp
  refine zC 11 rfl (fun K hK=>?_)
  go_simp
  refine(CT.out _ ((Below.refl _ _).drew.drew)).mono ?_
  rintro e V3 ⟨⟨a3,c3,rfl,hl3,hf3⟩,hk⟩
  have HK:Hid (Below V2.heap.size V2 V3):=below_first (below_first hk (Nat.le_refl _)) (Nat.le_refl _)
  have HL3:Hid (Re.Lie V3 a3 fl.length c3 (fun i=>fl.getD i 0)∧FarC V2.heap.size a3):=⟨hl3,hf3⟩
  clear hl3 hf3
  go_wp2_with fail
  refine hK.out _ _ (⟨keepR hk (hH.1),keepC hk (hH.2)⟩) (fun hN=>?_)
  clear hK K hH
  have hH:=hN
  clear hN
  try go_simp
  have S3:Hid (St N V3 b s L):=S2.out.below HK.out
  have B3:Hid (Bx V3 q {o with a:=s.regs x,b:=s.regs y}):=B2.out.below HK.out
  obtain⟨S4,T4⟩:=S3.out.setNames (up s.regs k (z:Int)) HL3.out.1 (far_own S2.out (Nat.le_refl _) HL3.out.2)
  have HS4:Hid (St N (V3.setCells b 107 (rowOf (mat s.phys (up s.regs k (z:Int)) (.slice a3 fl.length c3)) 34).toList) b {s with regs:=up s.regs k (z:Int),free:=fl} {L with f:=.slice a3 fl.length c3}):=S4
  have B4:Hid (Bx (V3.setCells b 107 (rowOf (mat s.phys (up s.regs k (z:Int)) (.slice a3 fl.length c3)) 34).toList) q {o with a:=s.regs x,b:=s.regs y}):=B3.out.to T4 HA.out.o
  have T5:Hid (Toq b q w L (V3.setCells b 107 (rowOf (mat s.phys (up s.regs k (z:Int)) (.slice a3 fl.length c3)) 34).toList) {L with f:=.slice a3 fl.length c3}):=(T2.out.trans (to_below L HK.out).q).trans T4.q
  have A5:Hid (Apt b q {s with regs:=up s.regs k (z:Int),free:=fl} {L with f:=.slice a3 fl.length c3}):=HA.out.setNames HL3.out.2 B2.out.lt
  clear S4 T4
  refine tU 12 (.tuple #[.agg (rowOf (mat s.phys (up s.regs k (z:Int)) (.slice a3 fl.length c3)) 34),.int .i64 (z:Int),.int .i64 (s.regs k),.bool true]) rfl hH ?_;try go_simp
  refine tU 13 (.agg (rowOf (mat s.phys (up s.regs k (z:Int)) (.slice a3 fl.length c3)) 34)) rfl hH ?_;try go_simp
  refine tU 14 (.int .i64 (z:Int)) rfl hH ?_;try go_simp
  refine tU 15 (.int .i64 (s.regs k)) rfl hH ?_;try go_simp
  refine tU 16 (.bool true) rfl hH ?_;try go_simp
  refine tU 17 (.pointer (some ⟨b,0,none⟩)) rfl hH ?_;try go_simp
  refine tU 18 (.pointer (some ⟨b,107,none⟩)) rfl hH ?_;try go_simp
  refine zL 19 rfl (fun K hK=>?_)
  rw[if_pos (by rfl)]
  refine wp_store_mid 54 _ _ rfl b 107 (rowOf (mat s.phys (up s.regs k (z:Int)) (.slice a3 fl.length c3)) 34) rfl rfl (by rw[rowOf_size];exact S3.out.there 107 34 (by omega)) (by have:=mpL_size s.phys (up s.regs k (z:Int)) (.slice a3 fl.length c3);rw[Array.length_toList]at this;exact this) (mpL_ones _ _ _ _ _) ?_
  refine hK.out _ _ ?_
  clear hK K
  try go_simp
  refine tV 20 (.pointer (some ⟨q,0,none⟩)) rfl (fun h=>absurd h (by decide)) ?_;try go_simp
  refine tV 21 (.pointer (some ⟨q,11,none⟩)) rfl (fun h=>absurd h (by decide)) ?_;try go_simp
  clear S3 B3 S2 B2 T2 HA hH HL3 HK CT c10
  generalize V3.setCells b 107 (rowOf (mat s.phys (up s.regs k (z:Int)) (.slice a3 fl.length c3)) 34).toList=V4 at*
  generalize ({L with f:=.slice a3 fl.length c3}:Sls)=L4 at*
  have c11:=bx_row B4.out 11 (v:=.int .i64 o.to) rfl
  have c12:=bx_row B4.out 12 (v:=.int .i64 o.old) rfl
  have f11:=bx_frozen B4.out 11
  have f12:=bx_frozen B4.out 12
  refine zL 22 rfl (fun K hK=>?_)
  go_simp
  refine hK.out _ _ ?_
  clear hK K
  try go_simp
  refine tV 23 (.pointer (some ⟨q,0,none⟩)) rfl (fun h=>absurd h (by decide)) ?_;try go_simp
  refine tV 24 (.pointer (some ⟨q,12,none⟩)) rfl (fun h=>absurd h (by decide)) ?_;try go_simp
  refine zL 25 rfl (fun K hK=>?_)
  go_simp
  refine hK.out _ _ ?_
  clear hK K
  try go_simp
  refine doneZ (by kernel_rfl) ?_ _
  have B6:Hid (Bx ((V4.setCell ⟨q,11,none⟩ (.int .i64 (z:Int))).setCell ⟨q,12,none⟩ (.int .i64 (s.regs k))) q (Dg.mk o.seq o.pc o.i o.st (s.regs x) (s.regs y) o.rd (z:Int) (s.regs k) o.next o.gs o.late o.car o.c)):=B4.out.tos _ _
  have hg:=two_puts V4 q 11 12 (.int .i64 (z:Int)) (.int .i64 (s.regs k))
  have S6:Hid (St N ((V4.setCell ⟨q,11,none⟩ (.int .i64 (z:Int))).setCell ⟨q,12,none⟩ (.int .i64 (s.regs k))) b {s with regs:=up s.regs k (z:Int),free:=fl} L4):=HS4.out.other hg A5.out
  have T6:Hid (Toq b q w L ((V4.setCell ⟨q,11,none⟩ (.int .i64 (z:Int))).setCell ⟨q,12,none⟩ (.int .i64 (s.regs k))) L4):=T5.out.trans (to_box hg)
  clear hg HS4 B4 T5 c11 c12 f11 f12
  generalize (V4.setCell ⟨q,11,none⟩ (.int .i64 (z:Int))).setCell ⟨q,12,none⟩ (.int .i64 (s.regs k))=V6 at*
  have c11:V6.cell? ⟨q,11,none⟩=some (.int .i64 (z:Int)):=bx_row B6.out 11 rfl
  have cA:=S6.out.thr z hz1
  have fA:=S6.out.frozen (237+z)
  have z0:0≤(z:Int):=by omega
  have z1:(z:Int)<96:=by omega
  go_upto_region 4 with fail
  refine startZ (S:=fun w'=>w'.cell? ⟨q,11,none⟩=some (.int .i64 (z:Int))) [8] (by kernel_rfl) (c11) (fun hH=>?_)
  refine tU 0 (.pointer (some ⟨b,0,none⟩)) rfl hH ?_;try go_simp
  refine tU 1 (.pointer (some ⟨q,0,none⟩)) rfl hH ?_;try go_simp
  refine tU 2 (.pointer (some ⟨q,0,none⟩)) rfl hH ?_;try go_simp
  refine tU 3 (.pointer (some ⟨q,11,none⟩)) rfl hH ?_;try go_simp
  refine tS 4 (.int .i64 (z:Int)) rfl (Or.inl ⟨by rfl,by intro wz hSw;have hc:=hSw;go_simp⟩) hH ?_;try go_simp
  refine tU 5 (.pointer (some ⟨b,0,none⟩)) rfl hH ?_;try go_simp
  refine tU 6 (.pointer (some ⟨b,237,none⟩)) rfl hH ?_;try go_simp
  refine tU 7 (.pointer (some ⟨b,237+z,none⟩)) rfl hH ?_;try go_simp
  refine zL 8 rfl (fun K hK=>?_)
  go_simp
  refine hK.out _ _ ?_
  clear hK K
  try go_simp
  refine doneZ (by kernel_rfl) ?_ _
  go_wp2_with fail
  refine bodyPost_end (results_none rfl _ _ _) rfl ⟨rfl,L4,?_⟩
  obtain⟨S7,T7⟩:=S6.out.setTh z hz1 false
  rw[F1.out,F2.out]
  exact⟨S7.dr,(B6.out.to T7 A5.out.o).dr,A5.out.th _,(T6.out.trans T7.q).dr⟩
end Go.Proofs.YtpiohehijkpghabGreatDoor.Co
