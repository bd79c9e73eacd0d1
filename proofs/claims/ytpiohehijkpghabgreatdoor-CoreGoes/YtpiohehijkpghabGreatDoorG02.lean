/- Plain facts on words of 32 bits: what each operation of chapter 1 makes of two words, and the arithmetic by which two ways of reckoning it agree. Nothing of the program is named here. -/
import Derived.WalkKit
import Derived.Laws.BitsAllLaws
import Derived.Test.YtpiohehijkpghabGreatDoorG01
set_option maxHeartbeats 1000000
namespace Go.Proofs.YtpiohehijkpghabGreatDoor
open Go.RowKit
open Hy
set_option linter.unusedVariables false
def le (f:Nat→Int):Nat→Int
 |0=>0
 |1=>f 0
 |2=>f 0+f 1*256
 |3=>f 0+f 1*256+f 2*65536
 |_=>f 0+f 1*256+f 2*65536+f 3*16777216
theorem or_add (i:Nat) (P a b:Int) (hP:P=((2^i:Nat):Int)) (hi:i≤32) (a0:0≤a) (a1:a<P) (b0:0≤b) (b1:b<4294967296) (hb:b%P=0):bits .or .u32 a b=a+b:=by
 have hle:P≤4294967296:=by
  subst hP
  have:2^i≤2^32:=Nat.pow_le_pow_right (by omega) hi
  omega
 exact or_slot i 32 hi P 4294967296 a b hP rfl a0 (by omega) (by rw[Int.emod_eq_of_lt a0 (by omega)];exact a1) b0 b1 b1 hb
theorem le_step0 (f:Nat→Int) (b0:0≤f 0∧f 0≤255):bits .or .u32 (le f 0) (f 0)=le f 1:=by
 show bits .or .u32 0 (f 0)=f 0
 rw[or_add 0 1 0 (f 0) rfl (by omega) (by omega) (by omega) b0.1 (by omega) (by omega)]
 omega
theorem le_step1 (f:Nat→Int) (b0:0≤f 0∧f 0≤255) (b1:0≤f 1∧f 1≤255):bits .or .u32 (le f 1) (f 1*256)=le f 2:=
 or_add 8 256 (f 0) (f 1*256) rfl (by omega) b0.1 (by omega) (by omega) (by omega) (by omega)
theorem le_step2 (f:Nat→Int) (b0:0≤f 0∧f 0≤255) (b1:0≤f 1∧f 1≤255) (b2:0≤f 2∧f 2≤255):bits .or .u32 (le f 2) (f 2*65536)=le f 3:=
 or_add 16 65536 (f 0+f 1*256) (f 2*65536) rfl (by omega) (by omega) (by omega) (by omega) (by omega) (by omega)
theorem le_step3 (f:Nat→Int) (b0:0≤f 0∧f 0≤255) (b1:0≤f 1∧f 1≤255) (b2:0≤f 2∧f 2≤255) (b3:0≤f 3∧f 3≤255):bits .or .u32 (le f 3) (f 3*16777216)=le f 4:=
 or_add 24 16777216 (f 0+f 1*256+f 2*65536) (f 3*16777216) rfl (by omega) (by omega) (by omega) (by omega) (by omega) (by omega)
theorem ret_ub {a b:Int} (h:a=b) (c:Bool):Ending.returned (.tuple #[.int .u32 a,.bool c])=.returned (.tuple #[.int .u32 b,.bool c]):=by rw[h]
theorem int_eq {k:IntKind} {a b:Int} (h:a=b):Value.int k a=Value.int k b:=by rw[h]
theorem gather_any (g o n c:Nat) (m:Nat) (f:Nat→Int) (hm:m=1∨m=2∨m=4) (hmn:m≤n) (hn:n≤140737488355328) (hf:∀i,i<m→0≤f i∧f i≤255) (w:World) (hc:∀i,i<m→w.cell? ⟨g,o+i,none⟩=some (.int .u8 (f i))):
  Calls Tryz.prog 128 #[.slice (some ⟨g,o,none⟩) n c,.int .u32 m] w fun e w'=>e=.returned (.int .u32 (le f m))∧w'=w:=by
 go_enter Tryz.func128,Tryz.ntmps128
 go_wp2
 go_loop [5,6,8] (fun t i k=>∃j:Nat,j≤m∧k=.int .u32 j∧t=.int .u32 (le f j)) (fun _ _ k=>m-(intOf k).toNat)
 case atStart=>exact⟨0,by omega,rfl,rfl⟩
 case round=>
  obtain⟨j,hj,rfl,rfl⟩:=hrel
  obtain⟨T,hT⟩:∃T,T=le f j:=⟨_,rfl⟩
  have HT:Hid (T=le f j):=hT
  rw[←hT]
  clear hT
  by_cases hlt:j<m
  ·rcases(by omega:j=0∨j=1∨j=2∨j=3)with rfl|rfl|rfl|rfl
   ·obtain⟨z,hz⟩:∃z,z=f 0:=⟨_,rfl⟩
    have c0:w.cell? ⟨g,o,none⟩=some (.int .u8 (f 0)):=hc 0 (by omega)
    have b0:=hf 0 (by omega)
    rw[←hz]at c0 b0
    have hA:Hid (z=f 0):=hz
    have HF:Hid (∀i,i<m→0≤f i∧f i≤255):=hf
    clear hc hf hz
    go_wp2
    go_round
    case rel=>exact⟨1,by omega,by go_num,int_eq (by rw[HT.out,hA.out];exact le_step0 f (HF.out 0 (by omega)))⟩
    case measure=>simp[intOf];omega
   ·obtain⟨z,hz⟩:∃z,z=f 1:=⟨_,rfl⟩
    have c0:w.cell? ⟨g,o+1,none⟩=some (.int .u8 (f 1)):=hc 1 (by omega)
    have b0:=hf 1 (by omega)
    rw[←hz]at c0 b0
    have hA:Hid (z=f 1):=hz
    have HF:Hid (∀i,i<m→0≤f i∧f i≤255):=hf
    clear hc hf hz
    go_wp2
    go_round
    case rel=>exact⟨2,by omega,by go_num,int_eq (by rw[HT.out,hA.out];exact le_step1 f (HF.out 0 (by omega)) (HF.out 1 (by omega)))⟩
    case measure=>simp[intOf];omega
   ·obtain⟨z,hz⟩:∃z,z=f 2:=⟨_,rfl⟩
    have c0:w.cell? ⟨g,o+2,none⟩=some (.int .u8 (f 2)):=hc 2 (by omega)
    have b0:=hf 2 (by omega)
    rw[←hz]at c0 b0
    have hA:Hid (z=f 2):=hz
    have HF:Hid (∀i,i<m→0≤f i∧f i≤255):=hf
    clear hc hf hz
    go_wp2
    go_round
    case rel=>exact⟨3,by omega,by go_num,int_eq (by rw[HT.out,hA.out];exact le_step2 f (HF.out 0 (by omega)) (HF.out 1 (by omega)) (HF.out 2 (by omega)))⟩
    case measure=>simp[intOf];omega
   ·obtain⟨z,hz⟩:∃z,z=f 3:=⟨_,rfl⟩
    have c0:w.cell? ⟨g,o+3,none⟩=some (.int .u8 (f 3)):=hc 3 (by omega)
    have b0:=hf 3 (by omega)
    rw[←hz]at c0 b0
    have hA:Hid (z=f 3):=hz
    have HF:Hid (∀i,i<m→0≤f i∧f i≤255):=hf
    clear hc hf hz
    go_wp2
    go_round
    case rel=>exact⟨4,by omega,by go_num,int_eq (by rw[HT.out,hA.out];exact le_step3 f (HF.out 0 (by omega)) (HF.out 1 (by omega)) (HF.out 2 (by omega)) (HF.out 3 (by omega)))⟩
    case measure=>simp[intOf];omega
  ·obtain rfl:j=m:=by omega
   go_wp2
   go_ret
   exact⟨congrArg Ending.returned (int_eq HT.out),rfl⟩
def Lies (w:World) (g o n:Nat) (f:Nat→Int):Prop:=∀i,i<n→w.cell? ⟨g,o+i,none⟩=some (.int .u8 (f i))
def ldv (op:Int) (f:Nat→Int):Int:=if op=11 then(if f 0<128 then f 0 else f 0+4294967040)else if op=12 then(if le f 2<32768 then le f 2 else le f 2+4294901760)else le f (ldn op).toNat
theorem Load_no (p:Option Addr) (n c:Nat) (op a:Int) (hn:n≤140737488355328) (a0:0≤a) (a1:a≤4294967295) (h:¬(0<ldn op∧a%ldn op=0∧a+ldn op≤n)) (w:World):
  Calls Tryz.prog 94 #[.slice p n c,.int .i64 op,.int .u32 a] w fun e w'=>e=.returned (.tuple #[.int .u32 0,.bool false])∧w'=w:=by
 have hd:decide (0<ldn op∧a%ldn op=0∧a+ldn op≤n)=false:=decide_eq_false h
 have hm:=ldn_cases op
 have H:Hid (ldn op=ldn op):=rfl
 obtain⟨m,hM⟩:∃m,m=ldn op:=⟨_,rfl⟩
 have C1:=loaded_any op
 rw[←hM]at hd hm C1
 have C2:=fun w=>stands_any p n c a m hn a0 a1 hm w
 rw[hd]at C2
 clear hM h hd hm
 go_enter Tryz.func94,Tryz.ntmps94
 go_wp2_with fail
 refine(C1 _).mono ?_
 rintro e w' ⟨rfl,rfl⟩
 go_wp2_with fail
 refine(C2 _).mono ?_
 rintro e w' ⟨rfl,rfl⟩
 go_wp2_with fail
 go_ret2
 exact⟨rfl,rfl⟩
theorem le_rng2 (f:Nat→Int) (hf:∀i,i<2→0≤f i∧f i≤255):0≤le f 2∧le f 2≤65535:=by
 have h0:=hf 0 (by omega)
 have h1:=hf 1 (by omega)
 show 0≤f 0+f 1*256∧f 0+f 1*256≤65535
 omega
theorem wrap_i8 (L:Int) (h0:128≤L) (h1:L≤255):IntKind.i8.wrap L=L-256:=by
 simp[IntKind.wrap,IntKind.bits,IntKind.signed];omega
theorem wrap_i16 (L:Int) (h0:32768≤L) (h1:L≤65535):IntKind.i16.wrap L=L-65536:=by
 simp[IntKind.wrap,IntKind.bits,IntKind.signed];omega
theorem Load_any (g o n c:Nat) (op:Int) (a m:Nat) (f:Nat→Int) (hM:ldn op=(m:Int)) (hn:n≤140737488355328) (a1:a≤4294967295) (h0:0<m) (h1:a%m=0) (h2:a+m≤n) (hnc:n≤c) (w:World)
  (hf:∀i,i<m→0≤f i∧f i≤255) (hc:Lies w g (o+a) m f):
  Calls Tryz.prog 94 #[.slice (some ⟨g,o,none⟩) n c,.int .i64 op,.int .u32 a] w fun e w'=>e=.returned (.tuple #[.int .u32 (ldv op f),.bool true])∧w'=w:=by
 have hm':=ldn_cases op
 have hm:m=1∨m=2∨m=4:=by omega
 have C1:=loaded_any op
 rw[hM]at C1 hm'
 have C2:=fun w=>stands_any (some ⟨g,o,none⟩) n c a m hn (by omega) (by omega) hm' w
 have hd:decide (0<(m:Int)∧(a:Int)%m=0∧(a:Int)+m≤n)=true:=decide_eq_true ⟨by omega,by omega,by omega⟩
 rw[hd]at C2
 have C3:=fun w hc=>gather_any g (o+a) (n-a) (c-a) m f hm (by omega) (by omega) hf w hc
 clear hd hm'
 obtain⟨L,hL⟩:∃L,L=le f m:=⟨_,rfl⟩
 have HL:Hid (L=le f m):=hL
 rw[←hL]at C3
 clear hL
 go_enter Tryz.func94,Tryz.ntmps94
 go_wp2_with fail
 refine(C1 _).mono ?_
 rintro e w' ⟨rfl,rfl⟩
 go_wp2_with fail
 refine(C2 _).mono ?_
 rintro e w' ⟨rfl,rfl⟩
 go_wp2_with fail
 refine(C3 _ hc).mono ?_
 rintro e w' ⟨rfl,rfl⟩
 clear C1 C2 C3 hc
 by_cases e1:op=11
 ·have hml:m=1:=by subst e1;simp[ldn]at hM;omega
  subst hml
  have hl:L=f 0:=HL.out
  have b0:=hf 0 (by omega)
  rw[←hl]at b0
  have HV:Hid (ldv op f=if L<128 then L else L+4294967040):=by show ldv op f=_;rw[hl,ldv,if_pos e1]
  clear hl hf HL
  by_cases hs:L<128
  ·rw[if_pos hs]at HV
   go_wp2_with fail
   go_ret2
   exact⟨ret_ub HV.out.symm true,rfl⟩
  ·rw[if_neg hs]at HV
   have hw:IntKind.i8.wrap L%4294967296=L+4294967040:=by rw[wrap_i8 L (by omega) (by omega)];omega
   go_wp2_with fail
   rw[hw]
   go_ret2
   exact⟨ret_ub HV.out.symm true,rfl⟩
 ·by_cases e2:op=12
  ·have hml:m=2:=by subst e2;simp[ldn]at hM;omega
   subst hml
   have hl:L=le f 2:=HL.out
   have b0:=le_rng2 f hf
   rw[←hl]at b0
   have HV:Hid (ldv op f=if L<32768 then L else L+4294901760):=by show ldv op f=_;rw[hl,ldv,if_neg e1,if_pos e2]
   clear hl hf HL
   by_cases hs:L<32768
   ·rw[if_pos hs]at HV
    go_wp2_with fail
    go_ret2
    exact⟨ret_ub HV.out.symm true,rfl⟩
   ·rw[if_neg hs]at HV
    have hw:IntKind.i16.wrap L%4294967296=L+4294901760:=by rw[wrap_i16 L (by omega) (by omega)];omega
    go_wp2_with fail
    rw[hw]
    go_ret2
    exact⟨ret_ub HV.out.symm true,rfl⟩
  ·have HV:Hid (ldv op f=L):=by
    show ldv op f=L
    rw[HL.out,ldv,if_neg e1,if_neg e2,hM];rfl
   clear HL hf hM
   go_wp2_with fail
   go_ret2
   exact⟨ret_ub HV.out.symm true,rfl⟩
end Go.Proofs.YtpiohehijkpghabGreatDoor
namespace Go.Proofs.YtpiohehijkpghabGreatDoor.Hy
open Go.RowKit
def sg (a:Int):Int:=if a<2147483648 then a else a-4294967296
def two (n:Nat):Int:=((2^n:Nat):Int)
def alu (op a b:Int):Int:=
 if op=28 then(a+b)%4294967296
 else if op=29 then(a-b)%4294967296
 else if op=30 then(a*two (b%32).toNat)%4294967296
 else if op=31 then(if sg a<sg b then 1 else 0)
 else if op=32 then(if a<b then 1 else 0)
 else if op=33 then((a.toNat^^^b.toNat:Nat):Int)
 else if op=34 then a/two (b%32).toNat
 else if op=35 then(sg a/two (b%32).toNat)%4294967296
 else if op=36 then((a.toNat|||b.toNat:Nat):Int)
 else if op=37 then((a.toNat&&& b.toNat:Nat):Int)
 else if op=38 then(a*b)%4294967296
 else if op=39 then(sg a*sg b/4294967296)%4294967296
 else if op=40 then(sg a*b/4294967296)%4294967296
 else if op=41 then(a*b/4294967296)%4294967296
 else if op=42 then(if b=0 then 4294967295 else(sg a).tdiv (sg b)%4294967296)
 else if op=43 then(if b=0 then 4294967295 else a/b)
 else if op=44 then(if b=0 then a else(sg a).tmod (sg b)%4294967296)
 else if op=45 then(if b=0 then a else a%b)
 else 0
def holds (op a b:Int):Bool:=
 if op=5 then a==b
 else if op=6 then a != b
 else if op=7 then decide (sg a<sg b)
 else if op=8 then !decide (sg a<sg b)
 else if op=9 then decide (a<b)
 else if op=10 then decide (b≤a)
 else false
theorem sg_range (a:Int) (a0:0≤a) (a1:a≤4294967295):-2147483648≤sg a∧sg a≤2147483647:=by
 unfold sg;split<;>omega
theorem wrap_sg (a:Int) (a0:0≤a) (a1:a≤4294967295):wrap32 a=sg a:=by
 unfold wrap32 sg;split<;>omega
theorem wrap64_sg (a:Int) (a0:0≤a) (a1:a≤4294967295):wrap64 (wrap32 a)=sg a:=by
 rw[wrap_sg a a0 a1]
 have:=sg_range a a0 a1
 unfold wrap64;omega
theorem sg_zero (a:Int) (a0:0≤a) (a1:a≤4294967295):sg a=0↔a=0:=by
 unfold sg;split<;>omega
theorem two_pos (n:Nat):0<two n:=by
 unfold two;have:=Nat.two_pow_pos n;omega
theorem pow_two (n:Nat):(2:Int)^n=two n:=by
 unfold two;simp
theorem low5 (b:Int) (b0:0≤b) (b1:b≤4294967295):bits .and .u32 b 31=b%32:=by
 rw[u32_and b 31 b0 (by omega) (by omega) (by omega)]
 show((b.toNat&&& 31:Nat):Int)=_
 rw[nat_mask5];omega
def natop (op:Int) (x y:Nat):Nat:=if op=37 then x&&& y else if op=36 then x|||y else x^^^y
theorem natop_lt (op:Int) (x y n:Nat) (hx:x<2^n) (hy:y<2^n):natop op x y<2^n:=by
 unfold natop
 split
 ·exact Nat.and_lt_two_pow _ hy
 ·split
  ·exact Nat.or_lt_two_pow hx hy
  ·exact Nat.xor_lt_two_pow hx hy
theorem tdiv_range (x y:Int) (m:Int) (hx0:-m≤x) (hx1:x≤m):-m≤x.tdiv y∧x.tdiv y≤m:=by
 have h:(x.tdiv y).natAbs≤x.natAbs:=by rw[Int.natAbs_tdiv];exact Nat.div_le_self _ _
 omega
theorem tmod_range (x y:Int) (m:Int) (hx0:-m≤x) (hx1:x≤m):-m≤x.tmod y∧x.tmod y≤m:=by
 have h:(x.tmod y).natAbs≤x.natAbs:=by rw[Int.natAbs_tmod];exact Nat.mod_le _ _
 omega
def Wd (n:Int):Prop:=0≤n∧n≤4294967295
theorem wd_ite {c:Prop} [Decidable c] {x y:Int} (hx:c→Wd x) (hy:¬c→Wd y):Wd (if c then x else y):=by
 split
 ·exact hx ‹_›
 ·exact hy ‹_›
theorem wd_mod (n:Int):Wd (n%4294967296):=by unfold Wd;omega
theorem wd_lit (n:Int) (h:0≤n∧n≤4294967295):Wd n:=h
theorem wd_bits (o a b:Int) (a0:0≤a) (a1:a≤4294967295) (b0:0≤b) (b1:b≤4294967295):Wd ((natop o a.toNat b.toNat:Nat):Int):=by
 have:=natop_lt o a.toNat b.toNat 32 (by omega) (by omega)
 unfold Wd;omega
theorem wd_div (a b:Int) (a0:0≤a) (a1:a≤4294967295) (b0:0≤b):Wd (a/b):=by
 have h2:=Int.ediv_nonneg a0 b0
 have h3:=Int.ediv_le_self b a0
 unfold Wd;omega
theorem wd_rest (a b:Int) (b1:b≤4294967295) (b0:0<b):Wd (a%b):=by
 have h1:=Int.emod_nonneg a (b:=b) (by omega)
 have h2:=Int.emod_lt_of_pos a (b:=b) (by omega)
 unfold Wd;omega
theorem alu_range (op a b:Int) (a0:0≤a) (a1:a≤4294967295) (b0:0≤b) (b1:b≤4294967295):0≤alu op a b∧alu op a b≤4294967295:=by
 show Wd (alu op a b)
 unfold alu
 refine wd_ite (fun _=>wd_mod _) fun _=>?_
 refine wd_ite (fun _=>wd_mod _) fun _=>?_
 refine wd_ite (fun _=>wd_mod _) fun _=>?_
 refine wd_ite (fun _=>wd_ite (fun _=>wd_lit _ (by omega)) (fun _=>wd_lit _ (by omega))) fun _=>?_
 refine wd_ite (fun _=>wd_ite (fun _=>wd_lit _ (by omega)) (fun _=>wd_lit _ (by omega))) fun _=>?_
 refine wd_ite (fun _=>wd_bits 33 a b a0 a1 b0 b1) fun _=>?_
 refine wd_ite (fun _=>wd_div _ _ a0 a1 (Int.le_of_lt (two_pos _))) fun _=>?_
 refine wd_ite (fun _=>wd_mod _) fun _=>?_
 refine wd_ite (fun _=>wd_bits 36 a b a0 a1 b0 b1) fun _=>?_
 refine wd_ite (fun _=>wd_bits 37 a b a0 a1 b0 b1) fun _=>?_
 refine wd_ite (fun _=>wd_mod _) fun _=>?_
 refine wd_ite (fun _=>wd_mod _) fun _=>?_
 refine wd_ite (fun _=>wd_mod _) fun _=>?_
 refine wd_ite (fun _=>wd_mod _) fun _=>?_
 refine wd_ite (fun _=>wd_ite (fun _=>wd_lit _ (by omega)) (fun _=>wd_mod _)) fun _=>?_
 refine wd_ite (fun _=>wd_ite (fun _=>wd_lit _ (by omega)) (fun _=>wd_div _ _ a0 a1 b0)) fun _=>?_
 refine wd_ite (fun _=>wd_ite (fun _=>wd_lit _ (by omega)) (fun _=>wd_mod _)) fun _=>?_
 refine wd_ite (fun _=>wd_ite (fun _=>wd_lit _ (by omega)) (fun _=>wd_rest _ _ b1 (by omega))) fun _=>?_
 exact wd_lit _ (by omega)
end Go.Proofs.YtpiohehijkpghabGreatDoor.Hy
