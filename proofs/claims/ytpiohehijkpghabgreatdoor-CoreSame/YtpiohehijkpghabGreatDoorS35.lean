/- slices.Concat of bytes, as a core begins with it: the program. -/
import Derived.Test.YtpiohehijkpghabGreatDoorS34
import Derived.Test.YtpiohehijkpghabGreatDoorS09
set_option maxRecDepth 20000
set_option maxHeartbeats 1000000
set_option linter.unusedSimpArgs false
set_option linter.unusedVariables false
open Go.Proofs.Tryz
namespace Go.Proofs.YtpiohehijkpghabGreatDoor.Co
open Go.RowKit
open Hy
open Wi Od Re.Hy
open Gu.Hy (Tb tcs)
theorem zM{w w1 w2:World}{row:Option Nat}(h:w.grownBy w1 row)(k:w1.grownBy w2 row):w.grownBy w2 row:=
 ⟨k.os.trans h.os,k.tape.trans h.tape,k.output.trans h.output,Nat.le_trans h.size k.size,fun g hg hn=>(k.block g (Nat.lt_of_lt_of_le hg h.size) hn).trans (h.block g hg hn)⟩
theorem kI(c:Cm):(prog.info? 64).map (·.size)=some (cC c).size:=za
theorem vA(c:Cm):(cC c).all (·.oneCell')=true:=(ja c).2
theorem Bx.there{w:World}{q:Nat}{o:Dg}(h:Bx w q o)(j m:Nat)(hj:j+m<=28):w.there q j m:=fun i hi=>by
 refine⟨?_,frozen_of_row _ _ _ _ _ h⟩
 rw[cell_of_row _ _ _ _ _ _ h,Array.getElem?_eq_getElem (by simp[zP];omega)]
 rfl
theorem St.frozen{N:Nat}{w:World}{b:Nat}{s:Cr}{L:Sls}(S:St N w b s L)(i:Nat):w.frozen? ⟨b,i,none⟩=false:=frozen_of_row _ _ _ _ _ S.row
theorem St.there{N:Nat}{w:World}{b:Nat}{s:Cr}{L:Sls}(S:St N w b s L)(j m:Nat)(hj:j+m<=339):w.there b j m:=xm S.row hj
theorem Apt.setNames{b q:Nat}{s:Cr}{L:Sls}(A:Apt b q s L){l:List Int}{r:Nat->Int}{a:Option Addr}{c:Nat}{B:Nat}(hf:FarC B a)(hq:q<B):Apt b q {s with regs:=r,free:=l} {L with f:=.slice a l.length c}:=by
 refine⟨A.o,A.m,fun g hg _=>?_,A.sl,A.r,A.g1,A.g2⟩
 cases a with
 |none=>cases hg
 |some x=>have:=hf x rfl;have:x.block=g:=Option.some.inj hg;omega
theorem qX{N:Nat}{w:World}{b:Nat}{s:Cr}{L:Sls}(S:St N w b s L){B:Nat}(hB:w.heap.size<=B){a:Option Addr}(hf:FarC B a):∀x,a=some x->¬own b L x.block:=fun x hx ho=>by
 have:=hf x hx
 have:=qR S ho
 omega
theorem zcz{N:Nat}{w:World}{b q:Nat}{s:Cr}{L:Sls}{o:Dg}(S:St N w b s L)(B:Bx w q o)(A:Apt b q s L)(k:Int)(m:Nat)(hd:DonAt s.slots o.seq m)(hn:s.slots.length<=100000):
  Calls prog 81 #[.pointer (some ⟨b,0,none⟩),.pointer (some ⟨q,0,none⟩),.int .i64 k] w fun e w'=>e=.returned (.tuple #[])/\∃L',St N w' b (kt s o k).1 L'/\Bx w' q (kt s o k).2/\Toq b q w L w' L':=by
 have c1:=zq B 1 (v:=.int .u32 o.pc) rfl
 have CT:=fun W=>zp5 o.pc k W
 have HS:Hid (St N w b s L):=S
 have HB:Hid (Bx w q o):=B
 have HA:Hid (Apt b q s L):=A
 have HD:Hid (DonAt s.slots o.seq m):=hd
 obtain⟨c,hc⟩:∃c,c=qe o.pc k:=⟨_,rfl⟩
 have HC:Hid (c=qe o.pc k):=hc
 rw[<-hc]at CT
 clear S B A hd hc
 go_enter func81,ntmps81
 go_wp2_with fail
 refine(CT _).mono ?_
 rintro e V1 ⟨rfl,hk⟩
 have S1:Hid (St N V1 b s L):=HS.out.below hk
 have B1:Hid (Bx V1 q o):=HB.out.below hk
 have T1:Hid (Toq b q w L V1 L):=(ze L hk).q
 have c7:=zq B1.out 7 (v:=.int .i64 o.st) rfl
 have f7:=qy B1.out 7
 have B2:Hid (Bx (V1.setCell ⟨q,7,none⟩ (.int .i64 2)) q {o with st:=2}):=B1.out.put 7 _ (by omega) rfl
 clear hk c1 CT HS HB
 go_upto_region 1 with(refine wpList_store_mid rfl 64 _ _ rfl q 17 (cC c) rfl rfl (B2.out.there 17 11 (by omega)) (kI c) (vA c) ?_)
 have B3:Hid (Bx ((V1.setCell ⟨q,7,none⟩ (.int .i64 2)).setCells q 17 (cC c).toList) q {o with st:=2,c:=c}):=B2.out.puts 17 _ (by simp[cC]) rfl
 have hg:V1.grownBy ((V1.setCell ⟨q,7,none⟩ (.int .i64 2)).setCells q 17 (cC c).toList) (some q):=zM (qd V1 q 7 _) (zO _ q 17 _)
 have S3:Hid (St N ((V1.setCell ⟨q,7,none⟩ (.int .i64 2)).setCells q 17 (cC c).toList) b s L):=S1.out.other hg HA.out
 have T3:Hid (Toq b q w L ((V1.setCell ⟨q,7,none⟩ (.int .i64 2)).setCells q 17 (cC c).toList) L):=T1.out.trans (zaB hg)
 clear hg S1 B1 T1 B2 c7 f7
 generalize (V1.setCell ⟨q,7,none⟩ (.int .i64 2)).setCells q 17 (cC c).toList=V at*
 obtain⟨a,cc,ea,hl0⟩:=S3.out.its.isl
 have k333:V.cell? ⟨b,333,none⟩=some (.slice a s.slots.length cc):=(zb S3.out.row (by omega)).trans (congrArg some ea)
 have CD:Hid (∀W,Below V.heap.size V W->Calls prog 100 #[.slice a s.slots.length cc,.int .i64 o.seq] W fun e w'=>(∃a c,e=.returned (.tuple #[.slice a (donS s.slots o.seq).length c,.bool true])/\LC w' a (donS s.slots o.seq).length c 2 (scs (donS s.slots o.seq))/\FarC W.heap.size a)/\Below W.heap.size W w'):=fun W hW=>by
  have:=zoX S3.out o.seq m HD.out hn W hW
  rw[ea]at this
  exact this
 clear hl0
 refine zx (S:=fun w'=>w'.cell? ⟨b,333,none⟩=some (.slice a s.slots.length cc)/\w'.cell? ⟨q,0,none⟩=some (.int .i64 o.seq)) [15] (by kernel_rfl) (⟨k333,zq B3.out 0 rfl⟩) (fun hH=>?_)
 refine tU 0 (.pointer (some ⟨b,0,none⟩)) rfl hH ?_;try go_simp
 refine tU 1 (.pointer (some ⟨b,0,none⟩)) rfl hH ?_;try go_simp
 refine tU 2 (.pointer (some ⟨b,0,none⟩)) rfl hH ?_;try go_simp
 refine tU 3 (.pointer (some ⟨b,333,none⟩)) rfl hH ?_;try go_simp
 refine tS 4 (.slice a s.slots.length cc) rfl (Or.inl ⟨by rfl,by intro wz hSw;have hc:=hSw.1;go_simp⟩) hH ?_;try go_simp
 refine tU 5 (.pointer (some ⟨q,0,none⟩)) rfl hH ?_;try go_simp
 refine tU 6 (.pointer (some ⟨q,0,none⟩)) rfl hH ?_;try go_simp
 refine tU 7 (.pointer (some ⟨q,0,none⟩)) rfl hH ?_;try go_simp
 refine tS 8 (.int .i64 o.seq) rfl (Or.inl ⟨by rfl,by intro wz hSw;have hc:=hSw.2;go_simp⟩) hH ?_;try go_simp
 refine zC 9 rfl (fun K hK=>?_)
 go_simp
 refine(CD.out _ ((Below.refl _ _).drew)).mono ?_
 rintro e V3 ⟨⟨a3,c3,rfl,hl3,hf3⟩,hk⟩
 have HK:Hid (Below V.heap.size V V3):=zi hk (Nat.le_refl _)
 have HL3:Hid (LC V3 a3 (donS s.slots o.seq).length c3 2 (scs (donS s.slots o.seq))/\FarC V.heap.size a3):=⟨hl3,hf3⟩
 clear hl3 hf3
 go_wp2_with fail
 refine hK.out _ _ (⟨zn hk (hH.1),zn hk (hH.2)⟩) (fun hN=>?_)
 clear hK K hH
 have hH:=hN
 clear hN
 try go_simp
 have S4:Hid (St N V3 b s L):=S3.out.below HK.out
 have cA:=hH.1
 have fA:=S4.out.frozen 333
 refine tU 10 (.tuple #[.slice a3 (donS s.slots o.seq).length c3,.bool true]) rfl hH ?_;try go_simp
 refine tU 11 (.slice a3 (donS s.slots o.seq).length c3) rfl hH ?_;try go_simp
 refine tU 12 (.bool true) rfl hH ?_;try go_simp
 refine tU 13 (.pointer (some ⟨b,0,none⟩)) rfl hH ?_;try go_simp
 refine tU 14 (.pointer (some ⟨b,333,none⟩)) rfl hH ?_;try go_simp
 refine zL 15 rfl (fun K hK=>?_)
 go_simp
 refine hK.out _ _ ?_
 clear hK K
 try go_simp
 refine zJ (by kernel_rfl) ?_ _
 have B4:Hid (Bx V3 q {o with st:=2,c:=c}):=B3.out.below HK.out
 obtain⟨S5,T5⟩:=S4.out.setSlots HL3.out.1 (qX S3.out (Nat.le_refl _) HL3.out.2)
 have B5:Hid (Bx (V3.setCell ⟨b,333,none⟩ (.slice a3 (donS s.slots o.seq).length c3)) q {o with st:=2,c:=c}):=B4.out.to T5 HA.out.o
 have T6:Hid (Toq b q w L (V3.setCell ⟨b,333,none⟩ (.slice a3 (donS s.slots o.seq).length c3)) {L with s:=.slice a3 (donS s.slots o.seq).length c3}):=(T3.out.trans (ze L HK.out).q).trans T5.q
 have S6:Hid (St N (V3.setCell ⟨b,333,none⟩ (.slice a3 (donS s.slots o.seq).length c3)) b {s with slots:=donS s.slots o.seq} {L with s:=.slice a3 (donS s.slots o.seq).length c3}):=S5
 have HO:Hid (¬own b {L with s:=.slice a3 (donS s.slots o.seq).length c3} q):=HA.out.o
 clear S5 T5 S4 T3 S3 HK HL3 B3 B4 HD CD hH cA fA k333 HA ea
 generalize V3.setCell ⟨b,333,none⟩ (.slice a3 (donS s.slots o.seq).length c3)=V5 at*
 generalize ({L with s:=.slice a3 (donS s.slots o.seq).length c3}:Sls)=L5 at*
 have cA:V5.cell? ⟨b,338,none⟩=some (.bool s.opn):=(zb S6.out.row (by omega)).trans rfl
 have fA:=S6.out.frozen 338
 go_wp2_with fail
 refine bodyPost_end (results_none rfl _ _ _) rfl ⟨rfl,L5,?_⟩
 obtain⟨S7,T7⟩:=S6.out.setOpn false
 have:=HC.out
 subst this
 exact⟨S7,B5.out.to T7 HO.out,T6.out.trans T7.q⟩
theorem St.dr{N:Nat}{w:World}{b:Nat}{s:Cr}{L:Sls}(S:St N w b s L):St N w.drew b s L:=S.below ((Below.refl _ _).drew)
theorem To.dr{b:Nat}{w w':World}{L L':Sls}(h:To b w L w' L'):To b w L w'.drew L':=⟨h.os,h.tape,h.output,h.size,h.block,h.fresh⟩
theorem Toq.dr{b q:Nat}{w w':World}{L L':Sls}(h:Toq b q w L w' L'):Toq b q w L w'.drew L':=⟨h.os,h.tape,h.output,h.size,h.block,h.fresh⟩
theorem Bx.dr{w:World}{q:Nat}{o:Dg}(h:Bx w q o):Bx w.drew q o:=h
theorem zj2{w w':World}{row:Option Nat}(h:w.grownBy w' row):w.grownBy w'.drew row:=⟨h.os,h.tape,h.output,h.size,h.block⟩
theorem St.reg{N:Nat}{w:World}{b:Nat}{s:Cr}{L:Sls}(S:St N w b s L)(x:Nat)(hx:x<32):w.cell? ⟨b,108+x,none⟩=some (.int .i64 (s.regs x)):=by
 refine(zb S.row (by omega)).trans (congrArg some ?_)
 unfold kat
 rw[if_neg (by omega),if_neg (by omega),if_neg (by omega),if_neg (by omega),if_pos (by omega)]
 unfold mat
 rw[if_neg (by omega),if_pos (by omega)]
 rw[show 108+x-107-1=x by omega]
theorem St.thr{N:Nat}{w:World}{b:Nat}{s:Cr}{L:Sls}(S:St N w b s L)(x:Nat)(hx:x<96):w.cell? ⟨b,237+x,none⟩=some (.bool (s.th (x:Int))):=by
 refine(zb S.row (by omega)).trans (congrArg some ?_)
 unfold kat
 rw[if_neg (by omega),if_neg (by omega),if_neg (by omega),if_neg (by omega),if_neg (by omega),if_neg (by omega),if_pos (by omega)]
 rw[show 237+x-237=x by omega]
theorem St.wrd{N:Nat}{w:World}{b:Nat}{s:Cr}{L:Sls}(S:St N w b s L)(x:Nat)(hx:x<96):w.cell? ⟨b,141+x,none⟩=some (.int .u32 (s.wd (x:Int))):=by
 refine(zb S.row (by omega)).trans (congrArg some ?_)
 unfold kat
 rw[if_neg (by omega),if_neg (by omega),if_neg (by omega),if_neg (by omega),if_neg (by omega),if_pos (by omega)]
 rw[show 141+x-141=x by omega]
theorem Bx.ab{w:World}{q:Nat}{o:Dg}(h:Bx w q o)(x y:Int):Bx ((w.setCell ⟨q,8,none⟩ (.int .i64 x)).setCell ⟨q,9,none⟩ (.int .i64 y)) q {o with a:=x,b:=y}:=
 Bx.put (o:={o with a:=x}) (Bx.put h 8 _ (by omega) rfl) 9 _ (by omega) rfl
theorem Bx.tos{w:World}{q:Nat}{o:Dg}(h:Bx w q o)(x y:Int):Bx ((w.setCell ⟨q,11,none⟩ (.int .i64 x)).setCell ⟨q,12,none⟩ (.int .i64 y)) q (Dg.mk o.seq o.pc o.i o.st o.a o.b o.rd x y o.next o.gs o.late o.car o.c):=
 Bx.put (o:=(Dg.mk o.seq o.pc o.i o.st o.a o.b o.rd x o.old o.next o.gs o.late o.car o.c)) (Bx.put h 11 _ (by omega) rfl) 12 _ (by omega) rfl
theorem Apt.th{b q:Nat}{s:Cr}{L:Sls}(h:Apt b q s L)(t:Int->Bool):Apt b q {s with th:=t} L:=⟨h.o,h.m,h.f,h.sl,h.r,h.g1,h.g2⟩
theorem zeG(w:World)(q i j:Nat)(u v:Value):w.grownBy ((w.setCell ⟨q,i,none⟩ u).setCell ⟨q,j,none⟩ v) (some q):=zM (qd w q i u) (qd _ q j v)
theorem zcA{N:Nat}{w:World}{b q:Nat}{s:Cr}{L:Sls}{o:Dg}(S:St N w b s L)(B:Bx w q o)(A:Apt b q s L)(hN:Nms s)(hr:o.rd<32)(hra:ra o.i<32)(hrb:rb o.i<32)(hf:o.rd≠0->s.free≠[]):
  Calls prog 80 #[.pointer (some ⟨b,0,none⟩),.pointer (some ⟨q,0,none⟩)] w fun e w'=>e=.returned (.tuple #[])/\∃L',St N w' b (namO s o).1 L'/\Bx w' q (namO s o).2/\Apt b q (namO s o).1 L'/\Toq b q w L w' L':=by
 have CR:=fun W=>zfk o.i W
 have HS:Hid (St N w b s L):=S
 have HB:Hid (Bx w q o):=B
 have HA:Hid (Apt b q s L):=A
 obtain⟨r1,e1⟩:∃r1:Cr,r1=(namO s o).1:=⟨_,rfl⟩
 obtain⟨r2,e2⟩:∃r2:Dg,r2=(namO s o).2:=⟨_,rfl⟩
 have E1:Hid (r1=(namO s o).1):=e1
 have E2:Hid (r2=(namO s o).2):=e2
 rw[<-e1,<-e2]
 obtain⟨x,hx⟩:∃x,x=ra o.i:=⟨_,rfl⟩
 obtain⟨y,hy⟩:∃y,y=rb o.i:=⟨_,rfl⟩
 have HX:Hid (x=ra o.i):=hx
 have HY:Hid (y=rb o.i):=hy
 rw[<-hx]at CR hra
 rw[<-hy]at CR hrb
 have hqb:q≠b:=fun h=>A.o (.inl h)
 clear S B A e1 e2 hx hy
 go_enter func80,ntmps80
 go_wp2_with(refine wpList_load_mid rfl 77 _ rfl q 2 rfl (ivL o.i).toList _ (xb HB.out) underlying77 rfl (qL _) ?_)
 refine(CR _).mono ?_
 rintro e V1 ⟨rfl,hk⟩
 have S1:Hid (St N V1 b s L):=HS.out.below hk
 have B1:Hid (Bx V1 q o):=HB.out.below hk
 have T1:Hid (Toq b q w L V1 L):=(ze L hk).q
 clear hk CR HS HB
 have kx:=S1.out.reg x hra
 have ky:=S1.out.reg y hrb
 have c8:=zq B1.out 8 (v:=.int .i64 o.a) rfl
 have c9:=zq B1.out 9 (v:=.int .i64 o.b) rfl
 have f8:=qy B1.out 8
 have f9:=qy B1.out 9
 have x0:0<=(x:Int):=by omega
 have x1:(x:Int)<32:=by omega
 have y0:0<=(y:Int):=by omega
 have y1:(y:Int)<32:=by omega
 go_upto_region 1 with fail
 refine zx (S:=fun w'=>w'.cell? ⟨b,108+x,none⟩=some (.int .i64 (s.regs x))/\w'.cell? ⟨b,108+y,none⟩=some (.int .i64 (s.regs y))) [18,21] (by kernel_rfl) (⟨kx,ky⟩) (fun hH=>?_)
 refine tU 0 (.pointer (some ⟨q,0,none⟩)) rfl hH ?_;try go_simp
 refine tU 1 (.pointer (some ⟨q,0,none⟩)) rfl hH ?_;try go_simp
 refine tU 2 (.pointer (some ⟨b,0,none⟩)) rfl hH ?_;try go_simp
 refine tU 3 (.int .i64 (x:Int)) rfl hH ?_;try go_simp
 refine tU 4 (.pointer (some ⟨b,0,none⟩)) rfl hH ?_;try go_simp
 refine tU 5 (.pointer (some ⟨b,107,none⟩)) rfl hH ?_;try go_simp
 refine tU 6 (.pointer (some ⟨b,108,none⟩)) rfl hH ?_;try go_simp
 refine tU 7 (.pointer (some ⟨b,108+x,none⟩)) rfl hH ?_;try go_simp
 refine tS 8 (.int .i64 (s.regs x)) rfl (Or.inl ⟨by rfl,by intro wz hSw;have hc:=hSw.1;go_simp⟩) hH ?_;try go_simp
 refine tU 9 (.pointer (some ⟨b,0,none⟩)) rfl hH ?_;try go_simp
 refine tU 10 (.int .i64 (y:Int)) rfl hH ?_;try go_simp
 refine tU 11 (.pointer (some ⟨b,0,none⟩)) rfl hH ?_;try go_simp
 refine tU 12 (.pointer (some ⟨b,107,none⟩)) rfl hH ?_;try go_simp
 refine tU 13 (.pointer (some ⟨b,108,none⟩)) rfl hH ?_;try go_simp
 refine tU 14 (.pointer (some ⟨b,108+y,none⟩)) rfl hH ?_;try go_simp
 refine tS 15 (.int .i64 (s.regs y)) rfl (Or.inl ⟨by rfl,by intro wz hSw;have hc:=hSw.2;go_simp⟩) hH ?_;try go_simp
 refine tU 16 (.pointer (some ⟨q,0,none⟩)) rfl hH ?_;try go_simp
 refine tU 17 (.pointer (some ⟨q,8,none⟩)) rfl hH ?_;try go_simp
 refine zL 18 rfl (fun K hK=>?_)
 go_simp
 refine hK.out _ _ ?_
 clear hK K
 try go_simp
 refine tV 19 (.pointer (some ⟨q,0,none⟩)) rfl (fun h=>absurd h (by decide)) ?_;try go_simp
 refine tV 20 (.pointer (some ⟨q,9,none⟩)) rfl (fun h=>absurd h (by decide)) ?_;try go_simp
 refine zL 21 rfl (fun K hK=>?_)
 go_simp
 refine hK.out _ _ ?_
 clear hK K
 try go_simp
 refine zJ (by kernel_rfl) ?_ _
 have B2:Hid (Bx ((V1.setCell ⟨q,8,none⟩ (.int .i64 (s.regs x))).setCell ⟨q,9,none⟩ (.int .i64 (s.regs y))) q {o with a:=s.regs x,b:=s.regs y}):=B1.out.ab _ _
 have hg:=zeG V1 q 8 9 (.int .i64 (s.regs x)) (.int .i64 (s.regs y))
 have S2:Hid (St N ((V1.setCell ⟨q,8,none⟩ (.int .i64 (s.regs x))).setCell ⟨q,9,none⟩ (.int .i64 (s.regs y))) b s L):=S1.out.other hg HA.out
 have T2:Hid (Toq b q w L ((V1.setCell ⟨q,8,none⟩ (.int .i64 (s.regs x))).setCell ⟨q,9,none⟩ (.int .i64 (s.regs y))) L):=T1.out.trans (zaB hg)
 clear hg hH kx ky c8 c9 f8 f9 S1 B1 T1 x0 x1 y0 y1
 generalize (V1.setCell ⟨q,8,none⟩ (.int .i64 (s.regs x))).setCell ⟨q,9,none⟩ (.int .i64 (s.regs y))=V2 at*
 have E3:Hid (namO s o=if o.rd=0 then(s,{o with a:=s.regs x,b:=s.regs y})else({s with regs:=up s.regs o.rd (s.free.headD 0),free:=s.free.tail,th:=upB s.th (s.free.headD 0) false},(Dg.mk o.seq o.pc o.i o.st (s.regs x) (s.regs y) o.rd (s.free.headD 0) (s.regs o.rd) o.next o.gs o.late o.car o.c))):=by show _=_;unfold namO;rw[HX.out,HY.out]
 clear HX HY
 obtain⟨k,hk⟩:∃k,k=o.rd:=⟨_,rfl⟩
 rw[<-hk]at hr hf
 have HK:Hid (k=o.rd):=hk
 have c10:V2.cell? ⟨q,10,none⟩=some (.int .i64 (k:Int)):=zq B2.out 10 (by rw[hk];rfl)
 rw[<-hk]at E3
 by_cases h0:k=0
 ·have hb0:((k:Int) != 0)=false:=by simp[h0]
  have c10':V2.cell? ⟨q,10,none⟩=some (.int .i64 0):=by rw[c10,h0];rfl
  have EE:=E3.out
  rw[if_pos h0]at EE
  have F1:Hid (r1=s):=E1.out.trans (congrArg Prod.fst EE)
  have F2:Hid (r2={o with a:=s.regs x,b:=s.regs y}):=E2.out.trans ((congrArg Prod.snd EE).trans (by rw[hk]))
  clear EE E3 E1 E2 c10 hb0 hk HK h0 hf
  go_wp2_with fail
  refine bodyPost_end (results_none rfl _ _ _) rfl ⟨rfl,L,?_⟩
  rw[F1.out,F2.out]
  exact⟨S2.out.dr,B2.out,HA.out,T2.out.dr⟩
 ·have hb0:((k:Int) != 0)=true:=by simp[h0]
  have EE:=E3.out
  rw[if_neg h0]at EE
  have F1:Hid (r1={s with regs:=up s.regs k (s.free.headD 0),free:=s.free.tail,th:=upB s.th (s.free.headD 0) false}):=E1.out.trans (congrArg Prod.fst EE)
  have F2:Hid (r2=(Dg.mk o.seq o.pc o.i o.st (s.regs x) (s.regs y) o.rd (s.free.headD 0) (s.regs k) o.next o.gs o.late o.car o.c)):=E2.out.trans ((congrArg Prod.snd EE).trans (by rw[hk]))
  obtain⟨z,hz⟩:∃z:Nat,s.free.headD 0=(z:Int):=Int.eq_ofNat_of_zero_le (by
   have:=hN.dis.rf
   cases hfr:s.free with
   |nil=>exact absurd hfr (hf h0)
   |cons a l=>rw[hfr]at this;exact(this a (List.mem_cons_self ..)).1)
  have hz1:z<96:=by
   have h1:=hN.dis.rf
   have h2:=hN.high
   cases hfr:s.free with
   |nil=>exact absurd hfr (hf h0)
   |cons a l=>
    rw[hfr]at h1 hz
    have:=(h1 a (List.mem_cons_self ..)).2
    have:a=(z:Int):=hz
    omega
  have CT:Hid (∀W,Below V2.heap.size V2 W->Calls prog 116 #[.agg (rowOf (mat s.phys s.regs L.f) 34),.int .i64 (k:Int)] W fun e w'=>(∃a c,e=.returned (.tuple #[.agg (rowOf (mat s.phys (up s.regs k (z:Int)) (.slice a s.free.tail.length c)) 34),.int .i64 (z:Int),.int .i64 (s.regs k),.bool true])/\Re.Lie w' a s.free.tail.length c (fun i=>s.free.tail.getD i 0)/\FarC W.heap.size a)/\Below W.heap.size W w'):=fun W hW=>by
   have:=zp9 S2.out hN k h0 hr (hf h0) W hW
   rw[hz,Array.toArray_toList]at this
   exact this
  obtain⟨fl,hfl⟩:∃fl,fl=s.free.tail:=⟨_,rfl⟩
  rw[<-hfl]at CT
  rw[hz,<-hfl]at F1
  rw[hz]at F2
  clear EE E3 E1 E2 hk HK hf hz hN hfl
  go_upto_region 3 with fail
  refine zx (S:=fun w'=>w'.rangeAt b 107 (mpL s L)/\w'.cell? ⟨q,10,none⟩=some (.int .i64 (k:Int))) [19,22,25] (by kernel_rfl) (⟨S2.out.names,c10⟩) (fun hH=>?_)
  refine tU 0 (.pointer (some ⟨b,0,none⟩)) rfl hH ?_;try go_simp
  refine tU 1 (.pointer (some ⟨q,0,none⟩)) rfl hH ?_;try go_simp
  refine tU 2 (.pointer (some ⟨q,0,none⟩)) rfl hH ?_;try go_simp
  refine tU 3 (.pointer (some ⟨b,0,none⟩)) rfl hH ?_;try go_simp
  refine tU 4 (.pointer (some ⟨b,0,none⟩)) rfl hH ?_;try go_simp
  refine tU 5 (.pointer (some ⟨b,107,none⟩)) rfl hH ?_;try go_simp
  refine tS 6 (.agg (mpL s L).toArray) rfl (yieldsIf_load_mid (by rfl) 54 _ rfl _ _ rfl (mpL s L) _ (fun wz hSw=>hSw.1) underlying54 rfl (jf _ _ _)) hH ?_;try go_simp
  refine tU 7 (.pointer (some ⟨q,0,none⟩)) rfl hH ?_;try go_simp
  refine tU 8 (.pointer (some ⟨q,0,none⟩)) rfl hH ?_;try go_simp
  refine tU 9 (.pointer (some ⟨q,10,none⟩)) rfl hH ?_;try go_simp
  refine tS 10 (.int .i64 (k:Int)) rfl (Or.inl ⟨by rfl,by intro wz hSw;have hc:=hSw.2;go_simp⟩) hH ?_;try go_simp
  refine zC 11 rfl (fun K hK=>?_)
  go_simp
  refine(CT.out _ ((Below.refl _ _).drew.drew)).mono ?_
  rintro e V3 ⟨⟨a3,c3,rfl,hl3,hf3⟩,hk⟩
  have HK:Hid (Below V2.heap.size V2 V3):=zi (zi hk (Nat.le_refl _)) (Nat.le_refl _)
  have HL3:Hid (Re.Lie V3 a3 fl.length c3 (fun i=>fl.getD i 0)/\FarC V2.heap.size a3):=⟨hl3,hf3⟩
  clear hl3 hf3
  go_wp2_with fail
  refine hK.out _ _ (⟨jy hk (hH.1),zn hk (hH.2)⟩) (fun hN=>?_)
  clear hK K hH
  have hH:=hN
  clear hN
  try go_simp
  have S3:Hid (St N V3 b s L):=S2.out.below HK.out
  have B3:Hid (Bx V3 q {o with a:=s.regs x,b:=s.regs y}):=B2.out.below HK.out
  obtain⟨S4,T4⟩:=S3.out.setNames (up s.regs k (z:Int)) HL3.out.1 (qX S2.out (Nat.le_refl _) HL3.out.2)
  have HS4:Hid (St N (V3.setCells b 107 (rowOf (mat s.phys (up s.regs k (z:Int)) (.slice a3 fl.length c3)) 34).toList) b {s with regs:=up s.regs k (z:Int),free:=fl} {L with f:=.slice a3 fl.length c3}):=S4
  have B4:Hid (Bx (V3.setCells b 107 (rowOf (mat s.phys (up s.regs k (z:Int)) (.slice a3 fl.length c3)) 34).toList) q {o with a:=s.regs x,b:=s.regs y}):=B3.out.to T4 HA.out.o
  have T5:Hid (Toq b q w L (V3.setCells b 107 (rowOf (mat s.phys (up s.regs k (z:Int)) (.slice a3 fl.length c3)) 34).toList) {L with f:=.slice a3 fl.length c3}):=(T2.out.trans (ze L HK.out).q).trans T4.q
  have A5:Hid (Apt b q {s with regs:=up s.regs k (z:Int),free:=fl} {L with f:=.slice a3 fl.length c3}):=HA.out.setNames HL3.out.2 B2.out.lt
  clear S4 T4
  refine tU 12 (.tuple #[.agg (rowOf (mat s.phys (up s.regs k (z:Int)) (.slice a3 fl.length c3)) 34),.int .i64 (z:Int),.int .i64 (s.regs k),.bool true]) rfl hH ?_;try go_simp
  refine tU 13 (.agg (rowOf (mat s.phys (up s.regs k (z:Int)) (.slice a3 fl.length c3)) 34)) rfl hH ?_;try go_simp
  refine tU 14 (.int .i64 (z:Int)) rfl hH ?_;try go_simp
  refine tU 15 (.int .i64 (s.regs k)) rfl hH ?_;try go_simp
  refine tU 16 (.bool true) rfl hH ?_;try go_simp
  refine tU 17 (.pointer (some ⟨b,0,none⟩)) rfl hH ?_;try go_simp
  refine tU 18 (.pointer (some ⟨b,107,none⟩)) rfl hH ?_;try go_simp
  refine zL 19 rfl (fun K hK=>?_)
  rw[if_pos (by rfl)]
  refine wp_store_mid 54 _ _ rfl b 107 (rowOf (mat s.phys (up s.regs k (z:Int)) (.slice a3 fl.length c3)) 34) rfl rfl (by rw[zf];exact S3.out.there 107 34 (by omega)) (by have:=jf s.phys (up s.regs k (z:Int)) (.slice a3 fl.length c3);rw[Array.length_toList]at this;exact this) (kH _ _ _ _ _) ?_
  refine hK.out _ _ ?_
  clear hK K
  try go_simp
  refine tV 20 (.pointer (some ⟨q,0,none⟩)) rfl (fun h=>absurd h (by decide)) ?_;try go_simp
  refine tV 21 (.pointer (some ⟨q,11,none⟩)) rfl (fun h=>absurd h (by decide)) ?_;try go_simp
  clear S3 B3 S2 B2 T2 HA hH HL3 HK CT c10
  generalize V3.setCells b 107 (rowOf (mat s.phys (up s.regs k (z:Int)) (.slice a3 fl.length c3)) 34).toList=V4 at*
  generalize ({L with f:=.slice a3 fl.length c3}:Sls)=L4 at*
  have c11:=zq B4.out 11 (v:=.int .i64 o.to) rfl
  have c12:=zq B4.out 12 (v:=.int .i64 o.old) rfl
  have f11:=qy B4.out 11
  have f12:=qy B4.out 12
  refine zL 22 rfl (fun K hK=>?_)
  go_simp
  refine hK.out _ _ ?_
  clear hK K
  try go_simp
  refine tV 23 (.pointer (some ⟨q,0,none⟩)) rfl (fun h=>absurd h (by decide)) ?_;try go_simp
  refine tV 24 (.pointer (some ⟨q,12,none⟩)) rfl (fun h=>absurd h (by decide)) ?_;try go_simp
  refine zL 25 rfl (fun K hK=>?_)
  go_simp
  refine hK.out _ _ ?_
  clear hK K
  try go_simp
  refine zJ (by kernel_rfl) ?_ _
  have B6:Hid (Bx ((V4.setCell ⟨q,11,none⟩ (.int .i64 (z:Int))).setCell ⟨q,12,none⟩ (.int .i64 (s.regs k))) q (Dg.mk o.seq o.pc o.i o.st (s.regs x) (s.regs y) o.rd (z:Int) (s.regs k) o.next o.gs o.late o.car o.c)):=B4.out.tos _ _
  have hg:=zeG V4 q 11 12 (.int .i64 (z:Int)) (.int .i64 (s.regs k))
  have S6:Hid (St N ((V4.setCell ⟨q,11,none⟩ (.int .i64 (z:Int))).setCell ⟨q,12,none⟩ (.int .i64 (s.regs k))) b {s with regs:=up s.regs k (z:Int),free:=fl} L4):=HS4.out.other hg A5.out
  have T6:Hid (Toq b q w L ((V4.setCell ⟨q,11,none⟩ (.int .i64 (z:Int))).setCell ⟨q,12,none⟩ (.int .i64 (s.regs k))) L4):=T5.out.trans (zaB hg)
  clear hg HS4 B4 T5 c11 c12 f11 f12
  generalize (V4.setCell ⟨q,11,none⟩ (.int .i64 (z:Int))).setCell ⟨q,12,none⟩ (.int .i64 (s.regs k))=V6 at*
  have c11:V6.cell? ⟨q,11,none⟩=some (.int .i64 (z:Int)):=zq B6.out 11 rfl
  have cA:=S6.out.thr z hz1
  have fA:=S6.out.frozen (237+z)
  have z0:0<=(z:Int):=by omega
  have z1:(z:Int)<96:=by omega
  go_upto_region 4 with fail
  refine zx (S:=fun w'=>w'.cell? ⟨q,11,none⟩=some (.int .i64 (z:Int))) [8] (by kernel_rfl) (c11) (fun hH=>?_)
  refine tU 0 (.pointer (some ⟨b,0,none⟩)) rfl hH ?_;try go_simp
  refine tU 1 (.pointer (some ⟨q,0,none⟩)) rfl hH ?_;try go_simp
  refine tU 2 (.pointer (some ⟨q,0,none⟩)) rfl hH ?_;try go_simp
  refine tU 3 (.pointer (some ⟨q,11,none⟩)) rfl hH ?_;try go_simp
  refine tS 4 (.int .i64 (z:Int)) rfl (Or.inl ⟨by rfl,by intro wz hSw;have hc:=hSw;go_simp⟩) hH ?_;try go_simp
  refine tU 5 (.pointer (some ⟨b,0,none⟩)) rfl hH ?_;try go_simp
  refine tU 6 (.pointer (some ⟨b,237,none⟩)) rfl hH ?_;try go_simp
  refine tU 7 (.pointer (some ⟨b,237+z,none⟩)) rfl hH ?_;try go_simp
  refine zL 8 rfl (fun K hK=>?_)
  go_simp
  refine hK.out _ _ ?_
  clear hK K
  try go_simp
  refine zJ (by kernel_rfl) ?_ _
  go_wp2_with fail
  refine bodyPost_end (results_none rfl _ _ _) rfl ⟨rfl,L4,?_⟩
  obtain⟨S7,T7⟩:=S6.out.setTh z hz1 false
  rw[F1.out,F2.out]
  exact⟨S7.dr,(B6.out.to T7 A5.out.o).dr,A5.out.th _,(T6.out.trans T7.q).dr⟩
theorem zoZ:(prog.info? 5).map (fun i=>(i.zero,i.size,i.bytes))=some (some (.int .u8 0),1,1):=by kernel_rfl
theorem zh7(N:Nat)(h0:0<N)(hN:N*1<=140737488355328)(w:World):
  Calls prog 35 #[.slice none 0 0,.int .i64 N] w fun e w'=>(∃v',e=.returned v'/\w'.ownsRow w.heap.size 5 1 v' 0 [])/\Below w.heap.size w w':=by
 obtain⟨i0,hi,hz0,hz1,hz2⟩:=info_parts zoZ
 go_enter func35,ntmps35
 go_wp2
 all_goals have e8:t5.bytes=1:=rfl
 all_goals have e9:Builtin.nextslicecap N 0*t5.bytes<=281474976710656:=growslice_fits h0 (by rw[e8];omega)
 all_goals try(exfalso;first|omega|(simp only[e8]at*;omega))
 go_ret
 have hge:=grownCap_ge w N 0 5
 have hle:=grownCap_le_maxLen w N 0 5 (by unfold maxLen;omega)
 refine⟨⟨_,rfl,World.ownsRow_made w _ _ (Nat.le_refl _) hle ?_⟩,(((Below.refl _ _).alloc (Nat.le_refl _) _).drew)⟩
 simp only[Array.size_append,size_zeroCells]
 show N*1+(grownCap w N 0 5-N)*1=grownCap w N 0 5*1
 omega
theorem zfS(w:World):
  Calls prog 35 #[.slice none 0 0,.int .i64 0] w fun e w'=>(∃v',e=.returned v'/\w'.ownsRow w.heap.size 5 1 v' 0 [])/\Below w.heap.size w w':=by
 go_enter func35,ntmps35
 go_wp2
 go_ret
 exact⟨⟨_,rfl,World.ownsRow_nil _ _ _ _⟩,Below.refl _ _⟩
theorem zh8(N:Nat)(hN:N*1<=140737488355328)(w:World):
  Calls prog 35 #[.slice none 0 0,.int .i64 N] w fun e w'=>(∃v',e=.returned v'/\w'.ownsRow w.heap.size 5 1 v' 0 [])/\Below w.heap.size w w':=by
 by_cases h:0<N
 ·exact zh7 N h hN w
 ·obtain rfl:N=0:=by omega
  exact zfS w
theorem zdG(q:Nat)(a1:Option Addr)(n1 c1:Nat)(cs1:List Value)(hn:n1*1<=140737488355328)(w:World)
  (hq:q<w.heap.size) (k0:w.cell? ⟨q,0,none⟩=some (.slice a1 n1 c1)) (hL1:Hid (LC w a1 n1 c1 1 cs1)):
  Calls prog 18 #[.slice (some ⟨q,0,none⟩) 1 1] w fun e w'=>(∃v',e=.returned v'/\w'.ownsRow w.heap.size 5 1 v' n1 cs1)/\Below w.heap.size w w':=by
 obtain⟨i0,hi,hz0,hz1,hz2⟩:=info_parts zoZ
 have C:=fun w=>zh8 n1 hn w
 go_enter func18,ntmps18
 go_wp2_with fail
 refine wp_loop_rounds 2 ?_
 rw[rounds_succ]
 go_wp2_with fail
 rw[rounds_succ]
 go_wp2_with fail
 refine(C _).mono ?_
 rintro e W1 ⟨⟨v,rfl,hown⟩,hk⟩
 have j0:W1.cell? ⟨q,0,none⟩=some (.slice a1 n1 c1):=(hk.cell (p:=⟨q,0,none⟩) hq).trans k0
 have HO:Hid (W1.ownsRow w.heap.size 5 1 v 0 []):=hown
 have HK:Hid (Below w.heap.size w W1):=hk
 clear hown hk k0 C
 go_wp2_with fail
 refine wp_loop_rounds 2 ?_
 rw[rounds_succ]
 go_wp2_with(at_builtin;refine zD _ rfl _ _ 28 rfl w.heap.size 5 i0 _ 1 1 underlying28 hi hz0 hz1 hz2 rfl (by decide) _ 0 [] rfl HO.out _ n1 c1 cs1 rfl (hL1.out.below (Nat.le_refl _) HK.out) (by unfold maxLen;omega) (by omega) HK.out.size ?_;intro v1 w1 hown1 hgrow1)
 have HO1:Hid (w1.ownsRow w.heap.size 5 1 v1 n1 cs1):=by show World.ownsRow _ _ _ _ _ _ _;simpa using hown1
 have HK1:Hid (Below w.heap.size w w1):=HK.out.grown hgrow1 HK.out.size (fun k hk=>(HO.out.lt k hk).1)
 clear hown1 hgrow1 HO HK j0
 rw[rounds_succ]
 go_wp2_with fail
 go_ret
 exact⟨⟨_,rfl,HO1.out⟩,HK1.out⟩
def bcs(f:Nat->Int)(n:Nat):List Value:=(List.range n).map fun i=>.int .u8 (f i)
theorem zdH{f:Nat->Int}{n i:Nat}(h:i<n):(bcs f n)[i]?=some (.int .u8 (f i)):=by simp[bcs,h]
theorem zfT{w:World}{B n:Nat}{v:Value}{f:Nat->Int}(h:w.ownsRow B 5 1 v n (bcs f n))(hn:n<=4096)(hf:∀i,i<n->0<=f i/\f i<=255):∃a c,v=.slice a n c/\Bys w a n c f/\∀x,a=some x->B<=x.block:=by
 rcases h.2 with⟨e,h0⟩|⟨g,cap,cur,e,hB,hr,hc,_,_,ht⟩
 ·subst h0
  exact⟨none,0,e,⟨hn,Nat.le_refl _,fun h=>absurd h (by omega),hf⟩,fun x hx=>by cases hx⟩
 ·refine⟨some ⟨g,0,none⟩,cap,e,⟨hn,hc,fun _=>⟨g,0,rfl,fun i hi=>?_⟩,hf⟩,fun x hx=>by have:=Option.some.inj hx;subst this;exact hB⟩
  rw[Nat.zero_add,cell_of_row _ _ _ _ _ _ hr,<-Array.getElem?_toList]
  have:(cur.toList.take (n*1))[i]?=some (.int .u8 (f i)):=by rw[ht];exact zdH hi
  rw[List.getElem?_take_of_lt (by omega)]at this
  exact this
end Go.Proofs.YtpiohehijkpghabGreatDoor.Co
