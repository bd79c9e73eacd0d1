/- Windows whose numbers rise: plain mathematics. -/
import Derived.ProofKit
import Derived.Test.YtpiohehijkpghacGreatDoorD05
set_option linter.unusedVariables false
open Go.Proofs.Tryz
namespace Go.Proofs.YtpiohehijkpghacGreatDoor.Hy
open Go.RowKit
def sg(a:Int):Int:=if a<2147483648 then a else a-4294967296
def two(n:Nat):Int:=((2^n:Nat):Int)
def alu(op a b:Int):Int:=
 if op=28 then(a+b)%4294967296
 else if op=29 then(a-b)%4294967296
 else if op=30 then(a*two (b%32).toNat)%4294967296
 else if op=31 then(if sg a<sg b then 1 else 0)
 else if op=32 then(if a<b then 1 else 0)
 else if op=33 then((a.toNat^^^b.toNat:Nat):Int)
 else if op=34 then a/two (b%32).toNat
 else if op=35 then(sg a/two (b%32).toNat)%4294967296
 else if op=36 then((a.toNat|||b.toNat:Nat):Int)
 else if op=37 then((a.toNat&&& b.toNat:Nat):Int)
 else if op=38 then(a*b)%4294967296
 else if op=39 then(sg a*sg b/4294967296)%4294967296
 else if op=40 then(sg a*b/4294967296)%4294967296
 else if op=41 then(a*b/4294967296)%4294967296
 else if op=42 then(if b=0 then 4294967295 else(sg a).tdiv (sg b)%4294967296)
 else if op=43 then(if b=0 then 4294967295 else a/b)
 else if op=44 then(if b=0 then a else(sg a).tmod (sg b)%4294967296)
 else if op=45 then(if b=0 then a else a%b)
 else 0
def holds(op a b:Int):Bool:=
 if op=5 then a==b
 else if op=6 then a != b
 else if op=7 then decide (sg a<sg b)
 else if op=8 then !decide (sg a<sg b)
 else if op=9 then decide (a<b)
 else if op=10 then decide (b<=a)
 else false
theorem qW(a:Int)(a0:0<=a)(a1:a<=4294967295):-2147483648<=sg a/\sg a<=2147483647:=by
 unfold sg;split<;>omega
theorem zgh(a:Int)(a0:0<=a)(a1:a<=4294967295):wrap32 a=sg a:=by
 unfold wrap32 sg;split<;>omega
theorem zW(a:Int)(a0:0<=a)(a1:a<=4294967295):wrap64 (wrap32 a)=sg a:=by
 rw[zgh a a0 a1]
 have:=qW a a0 a1
 unfold wrap64;omega
theorem zgi(a:Int)(a0:0<=a)(a1:a<=4294967295):sg a=0↔a=0:=by
 unfold sg;split<;>omega
theorem zk1(n:Nat):0<two n:=by
 unfold two;have:=Nat.two_pow_pos n;omega
theorem zcK(n:Nat):(2:Int)^n=two n:=by
 unfold two;simp
theorem low5(b:Int)(b0:0<=b)(b1:b<=4294967295):bits .and .u32 b 31=b%32:=by
 rw[u32_and b 31 b0 (by omega) (by omega) (by omega)]
 show((b.toNat&&& 31:Nat):Int)=_
 rw[nat_mask5];omega
def natop(op:Int)(x y:Nat):Nat:=if op=37 then x&&& y else if op=36 then x|||y else x^^^y
theorem ziG(op:Int)(x y n:Nat)(hx:x<2^n)(hy:y<2^n):natop op x y<2^n:=by
 unfold natop
 split
 ·exact Nat.and_lt_two_pow _ hy
 ·split
  ·exact Nat.or_lt_two_pow hx hy
  ·exact Nat.xor_lt_two_pow hx hy
theorem zeW(x y:Int)(m:Int)(hx0:-m<=x)(hx1:x<=m):-m<=x.tdiv y/\x.tdiv y<=m:=by
 have h:(x.tdiv y).natAbs<=x.natAbs:=by rw[Int.natAbs_tdiv];exact Nat.div_le_self _ _
 omega
theorem zeX(x y:Int)(m:Int)(hx0:-m<=x)(hx1:x<=m):-m<=x.tmod y/\x.tmod y<=m:=by
 have h:(x.tmod y).natAbs<=x.natAbs:=by rw[Int.natAbs_tmod];exact Nat.mod_le _ _
 omega
def Wd(n:Int):Prop:=0<=n/\n<=4294967295
theorem qh{c:Prop}[Decidable c]{x y:Int}(hx:c->Wd x)(hy:¬c->Wd y):Wd (if c then x else y):=by
 split
 ·exact hx ‹_›
 ·exact hy ‹_›
theorem xE(n:Int):Wd (n%4294967296):=by unfold Wd;omega
theorem xY(n:Int)(h:0<=n/\n<=4294967295):Wd n:=h
theorem zcL(o a b:Int)(a0:0<=a)(a1:a<=4294967295)(b0:0<=b)(b1:b<=4294967295):Wd ((natop o a.toNat b.toNat:Nat):Int):=by
 have:=ziG o a.toNat b.toNat 32 (by omega) (by omega)
 unfold Wd;omega
theorem zkb(a b:Int)(a0:0<=a)(a1:a<=4294967295)(b0:0<=b):Wd (a/b):=by
 have h2:=Int.ediv_nonneg a0 b0
 have h3:=Int.ediv_le_self b a0
 unfold Wd;omega
theorem zk2(a b:Int)(b1:b<=4294967295)(b0:0<b):Wd (a%b):=by
 have h1:=Int.emod_nonneg a (b:=b) (by omega)
 have h2:=Int.emod_lt_of_pos a (b:=b) (by omega)
 unfold Wd;omega
theorem zbC(op a b:Int)(a0:0<=a)(a1:a<=4294967295)(b0:0<=b)(b1:b<=4294967295):0<=alu op a b/\alu op a b<=4294967295:=by
 show Wd (alu op a b)
 unfold alu
 refine qh (fun _=>xE _) fun _=>?_
 refine qh (fun _=>xE _) fun _=>?_
 refine qh (fun _=>xE _) fun _=>?_
 refine qh (fun _=>qh (fun _=>xY _ (by omega)) (fun _=>xY _ (by omega))) fun _=>?_
 refine qh (fun _=>qh (fun _=>xY _ (by omega)) (fun _=>xY _ (by omega))) fun _=>?_
 refine qh (fun _=>zcL 33 a b a0 a1 b0 b1) fun _=>?_
 refine qh (fun _=>zkb _ _ a0 a1 (Int.le_of_lt (zk1 _))) fun _=>?_
 refine qh (fun _=>xE _) fun _=>?_
 refine qh (fun _=>zcL 36 a b a0 a1 b0 b1) fun _=>?_
 refine qh (fun _=>zcL 37 a b a0 a1 b0 b1) fun _=>?_
 refine qh (fun _=>xE _) fun _=>?_
 refine qh (fun _=>xE _) fun _=>?_
 refine qh (fun _=>xE _) fun _=>?_
 refine qh (fun _=>xE _) fun _=>?_
 refine qh (fun _=>qh (fun _=>xY _ (by omega)) (fun _=>xE _)) fun _=>?_
 refine qh (fun _=>qh (fun _=>xY _ (by omega)) (fun _=>zkb _ _ a0 a1 b0)) fun _=>?_
 refine qh (fun _=>qh (fun _=>xY _ (by omega)) (fun _=>xE _)) fun _=>?_
 refine qh (fun _=>qh (fun _=>xY _ (by omega)) (fun _=>zk2 _ _ b1 (by omega))) fun _=>?_
 exact xY _ (by omega)
end Go.Proofs.YtpiohehijkpghacGreatDoor.Hy
namespace Go.Proofs.YtpiohehijkpghacGreatDoor
open Go.RowKit
open Hy
theorem zX{k:IntKind}{a b:Int}(h:a=b):Ending.returned (.int k a)=.returned (.int k b):=by rw[h]
theorem ziH{a b:Bool}(h:a=b):Ending.returned (.bool a)=.returned (.bool b):=by rw[h]
theorem yY(b:Int)(b0:0<=b)(b1:b<=4294967295)(w:World):
  Calls prog 190 #[.int .u32 b] w fun e w'=>e=.returned (.int .u32 (b%32))/\w'=w:=by
 go_enter func190,ntmps190
 go_wp2
 go_ret
 exact⟨zX (low5 b b0 b1),rfl⟩
theorem xF(a b:Int)(a0:0<=a)(a1:a<=4294967295)(b0:0<=b)(b1:b<=4294967295)(w:World):
  Calls prog 189 #[.int .u32 a,.int .u32 b] w fun e w'=>e=.returned (.bool (decide (sg a<sg b)))/\w'=w:=by
 go_enter func189,ntmps189
 go_wp2
 go_ret
 exact⟨ziH (by rw[zW a a0 a1,zW b b0 b1]),rfl⟩
theorem wrap64_in(n:Int)(h0:-9223372036854775808<=n)(h1:n<=9223372036854775807):wrap64 n=n:=by
 unfold wrap64;omega
theorem zbD(n:Int):IntKind.u64.wrap (wrap64 n)/4294967296%4294967296=n/4294967296%4294967296:=by
 rw[IntKind.wrap_u64];unfold wrap64;omega
theorem zeY(n:Int):IntKind.u64.wrap n/4294967296%4294967296=n/4294967296%4294967296:=by
 rw[IntKind.wrap_u64];omega
theorem xZ(a b:Int)(a0:0<=a)(a1:a<=4294967295)(b0:0<=b)(b1:b<=4294967295)(w:World):
  Calls prog 194 #[.int .u32 a,.int .u32 b] w fun e w'=>e=.returned (.int .u32 (alu 42 a b))/\w'=w:=by
 by_cases hb:b=0
 ·subst hb
  go_enter func194,ntmps194
  go_wp2
  go_ret
  exact⟨rfl,rfl⟩
 ·have hb':(b==0)=false:=by simpa using hb
  have hs:¬wrap64 (wrap32 b)=0:=fun h=>hb ((zgi b b0 b1).1 (zW b b0 b1▸h))
  have ha:=qW a a0 a1
  have hd:=zeW (sg a) (sg b) 2147483648 (by omega) (by omega)
  go_enter func194,ntmps194
  go_wp2
  go_ret
  exact⟨zX (by rw[zW a a0 a1,zW b b0 b1,wrap64_in _ (by omega) (by omega)];simp[alu,hb]),rfl⟩
theorem zbE(a b:Int)(a0:0<=a)(a1:a<=4294967295)(b0:0<=b)(b1:b<=4294967295)(w:World):
  Calls prog 195 #[.int .u32 a,.int .u32 b] w fun e w'=>e=.returned (.int .u32 (alu 43 a b))/\w'=w:=by
 by_cases hb:b=0
 ·subst hb
  go_enter func195,ntmps195
  go_wp2
  go_ret
  exact⟨rfl,rfl⟩
 ·have hb':(b==0)=false:=by simpa using hb
  go_enter func195,ntmps195
  go_wp2
  go_ret
  exact⟨zX (by simp[alu,hb]),rfl⟩
theorem zac(a b:Int)(a0:0<=a)(a1:a<=4294967295)(b0:0<=b)(b1:b<=4294967295)(w:World):
  Calls prog 196 #[.int .u32 a,.int .u32 b] w fun e w'=>e=.returned (.int .u32 (alu 44 a b))/\w'=w:=by
 by_cases hb:b=0
 ·subst hb
  go_enter func196,ntmps196
  go_wp2
  go_ret
  exact⟨rfl,rfl⟩
 ·have hb':(b==0)=false:=by simpa using hb
  have hs:¬wrap64 (wrap32 b)=0:=fun h=>hb ((zgi b b0 b1).1 (zW b b0 b1▸h))
  have ha:=qW a a0 a1
  have hd:=zeX (sg a) (sg b) 2147483648 (by omega) (by omega)
  go_enter func196,ntmps196
  go_wp2
  go_ret
  exact⟨zX (by rw[zW a a0 a1,zW b b0 b1];simp[alu,hb]),rfl⟩
theorem ziI(a b:Int)(a0:0<=a)(a1:a<=4294967295)(b0:0<=b)(b1:b<=4294967295)(w:World):
  Calls prog 197 #[.int .u32 a,.int .u32 b] w fun e w'=>e=.returned (.int .u32 (alu 45 a b))/\w'=w:=by
 by_cases hb:b=0
 ·subst hb
  go_enter func197,ntmps197
  go_wp2
  go_ret
  exact⟨rfl,rfl⟩
 ·have hb':(b==0)=false:=by simpa using hb
  go_enter func197,ntmps197
  go_wp2
  go_ret
  exact⟨zX (by simp[alu,hb]),rfl⟩
theorem zoK(a b:Int)(a0:0<=a)(a1:a<=4294967295)(b0:0<=b)(b1:b<=4294967295)(w:World):
  Calls prog 168 #[.int .i64 28,.int .u32 a,.int .u32 b] w fun e w'=>e=.returned (.int .u32 (alu 28 a b))/\w'=w:=by
 go_enter func168,ntmps168
 go_wp2
 go_ret
 exact⟨rfl,rfl⟩
theorem zoL(a b:Int)(a0:0<=a)(a1:a<=4294967295)(b0:0<=b)(b1:b<=4294967295)(w:World):
  Calls prog 168 #[.int .i64 29,.int .u32 a,.int .u32 b] w fun e w'=>e=.returned (.int .u32 (alu 29 a b))/\w'=w:=by
 go_enter func168,ntmps168
 go_wp2
 go_ret
 exact⟨rfl,rfl⟩
theorem zoM(a b:Int)(a0:0<=a)(a1:a<=4294967295)(b0:0<=b)(b1:b<=4294967295)(w:World):
  Calls prog 168 #[.int .i64 38,.int .u32 a,.int .u32 b] w fun e w'=>e=.returned (.int .u32 (alu 38 a b))/\w'=w:=by
 go_enter func168,ntmps168
 go_wp2
 go_ret
 exact⟨rfl,rfl⟩
theorem zoN(a b:Int)(a0:0<=a)(a1:a<=4294967295)(b0:0<=b)(b1:b<=4294967295)(w:World):
  Calls prog 168 #[.int .i64 33,.int .u32 a,.int .u32 b] w fun e w'=>e=.returned (.int .u32 (alu 33 a b))/\w'=w:=by
 go_enter func168,ntmps168
 go_wp2
 go_ret
 exact⟨zX (u32_xor a b a0 (by omega) b0 (by omega)),rfl⟩
theorem zoO(a b:Int)(a0:0<=a)(a1:a<=4294967295)(b0:0<=b)(b1:b<=4294967295)(w:World):
  Calls prog 168 #[.int .i64 36,.int .u32 a,.int .u32 b] w fun e w'=>e=.returned (.int .u32 (alu 36 a b))/\w'=w:=by
 go_enter func168,ntmps168
 go_wp2
 go_ret
 exact⟨zX (u32_or a b a0 (by omega) b0 (by omega)),rfl⟩
theorem zoP(a b:Int)(a0:0<=a)(a1:a<=4294967295)(b0:0<=b)(b1:b<=4294967295)(w:World):
  Calls prog 168 #[.int .i64 37,.int .u32 a,.int .u32 b] w fun e w'=>e=.returned (.int .u32 (alu 37 a b))/\w'=w:=by
 go_enter func168,ntmps168
 go_wp2
 go_ret
 exact⟨zX (u32_and a b a0 (by omega) b0 (by omega)),rfl⟩
theorem zoQ(a b:Int)(a0:0<=a)(a1:a<=4294967295)(b0:0<=b)(b1:b<=4294967295)(w:World):
  Calls prog 168 #[.int .i64 30,.int .u32 a,.int .u32 b] w fun e w'=>e=.returned (.int .u32 (alu 30 a b))/\w'=w:=by
 have s0:0<=b%32:=by omega
 have s1:b%32<=32:=by omega
 go_enter func168,ntmps168
 go_wp2_with(go_at_call 190;refine(yY b b0 b1 _).mono ?_;rintro e w' ⟨rfl,rfl⟩)
 go_ret
 exact⟨zX (by simp[alu,zcK]),rfl⟩
theorem zoR(a b:Int)(a0:0<=a)(a1:a<=4294967295)(b0:0<=b)(b1:b<=4294967295)(w:World):
  Calls prog 168 #[.int .i64 34,.int .u32 a,.int .u32 b] w fun e w'=>e=.returned (.int .u32 (alu 34 a b))/\w'=w:=by
 have s0:0<=b%32:=by omega
 have s1:b%32<=32:=by omega
 go_enter func168,ntmps168
 go_wp2_with(go_at_call 190;refine(yY b b0 b1 _).mono ?_;rintro e w' ⟨rfl,rfl⟩)
 go_ret
 exact⟨zX (by simp[alu,zcK]),rfl⟩
theorem zoS(a b:Int)(a0:0<=a)(a1:a<=4294967295)(b0:0<=b)(b1:b<=4294967295)(w:World):
  Calls prog 168 #[.int .i64 35,.int .u32 a,.int .u32 b] w fun e w'=>e=.returned (.int .u32 (alu 35 a b))/\w'=w:=by
 have s0:0<=b%32:=by omega
 have s1:b%32<=32:=by omega
 go_enter func168,ntmps168
 go_wp2_with(go_at_call 190;refine(yY b b0 b1 _).mono ?_;rintro e w' ⟨rfl,rfl⟩)
 go_ret
 exact⟨zX (by simp[alu,zcK,zgh a a0 a1]),rfl⟩
theorem zoT(a b:Int)(a0:0<=a)(a1:a<=4294967295)(b0:0<=b)(b1:b<=4294967295)(w:World):
  Calls prog 168 #[.int .i64 31,.int .u32 a,.int .u32 b] w fun e w'=>e=.returned (.int .u32 (alu 31 a b))/\w'=w:=by
 by_cases h:wrap64 (wrap32 a)<wrap64 (wrap32 b)
 all_goals
  go_enter func168,ntmps168
  go_wp2
  go_ret
  exact⟨zX (by rw[zW a a0 a1,zW b b0 b1]at h;simp[alu,h]),rfl⟩
theorem zoU(a b:Int)(a0:0<=a)(a1:a<=4294967295)(b0:0<=b)(b1:b<=4294967295)(w:World):
  Calls prog 168 #[.int .i64 32,.int .u32 a,.int .u32 b] w fun e w'=>e=.returned (.int .u32 (alu 32 a b))/\w'=w:=by
 by_cases h:a<b
 all_goals
  go_enter func168,ntmps168
  go_wp2
  go_ret
  exact⟨zX (by simp[alu,h]),rfl⟩
theorem zoV(a b:Int)(a0:0<=a)(a1:a<=4294967295)(b0:0<=b)(b1:b<=4294967295)(w:World):
  Calls prog 168 #[.int .i64 39,.int .u32 a,.int .u32 b] w fun e w'=>e=.returned (.int .u32 (alu 39 a b))/\w'=w:=by
 have ha:=qW a a0 a1
 have hb:=qW b b0 b1
 go_enter func168,ntmps168
 go_wp2
 go_ret
 exact⟨zX (by rw[zbD,zW a a0 a1,zW b b0 b1];rfl),rfl⟩
theorem zoW(a b:Int)(a0:0<=a)(a1:a<=4294967295)(b0:0<=b)(b1:b<=4294967295)(w:World):
  Calls prog 168 #[.int .i64 40,.int .u32 a,.int .u32 b] w fun e w'=>e=.returned (.int .u32 (alu 40 a b))/\w'=w:=by
 have ha:=qW a a0 a1
 have hb:=qW b b0 b1
 go_enter func168,ntmps168
 go_wp2
 go_ret
 exact⟨zX (by rw[zbD,zW a a0 a1];rfl),rfl⟩
theorem zoX(a b:Int)(a0:0<=a)(a1:a<=4294967295)(b0:0<=b)(b1:b<=4294967295)(w:World):
  Calls prog 168 #[.int .i64 41,.int .u32 a,.int .u32 b] w fun e w'=>e=.returned (.int .u32 (alu 41 a b))/\w'=w:=by
 have ha:=qW a a0 a1
 have hb:=qW b b0 b1
 go_enter func168,ntmps168
 go_wp2
 go_ret
 exact⟨zX (zeY _),rfl⟩
theorem zoY(a b:Int)(a0:0<=a)(a1:a<=4294967295)(b0:0<=b)(b1:b<=4294967295)(w:World):
  Calls prog 168 #[.int .i64 42,.int .u32 a,.int .u32 b] w fun e w'=>e=.returned (.int .u32 (alu 42 a b))/\w'=w:=by
 go_enter func168,ntmps168
 go_wp2_with(go_at_call 194;refine(xZ a b a0 a1 b0 b1 _).mono ?_;rintro e w' ⟨rfl,rfl⟩)
 go_ret
 exact⟨rfl,rfl⟩
theorem zoZ(a b:Int)(a0:0<=a)(a1:a<=4294967295)(b0:0<=b)(b1:b<=4294967295)(w:World):
  Calls prog 168 #[.int .i64 43,.int .u32 a,.int .u32 b] w fun e w'=>e=.returned (.int .u32 (alu 43 a b))/\w'=w:=by
 go_enter func168,ntmps168
 go_wp2_with(go_at_call 195;refine(zbE a b a0 a1 b0 b1 _).mono ?_;rintro e w' ⟨rfl,rfl⟩)
 go_ret
 exact⟨rfl,rfl⟩
theorem zo0(a b:Int)(a0:0<=a)(a1:a<=4294967295)(b0:0<=b)(b1:b<=4294967295)(w:World):
  Calls prog 168 #[.int .i64 44,.int .u32 a,.int .u32 b] w fun e w'=>e=.returned (.int .u32 (alu 44 a b))/\w'=w:=by
 go_enter func168,ntmps168
 go_wp2_with(go_at_call 196;refine(zac a b a0 a1 b0 b1 _).mono ?_;rintro e w' ⟨rfl,rfl⟩)
 go_ret
 exact⟨rfl,rfl⟩
theorem zo1(a b:Int)(a0:0<=a)(a1:a<=4294967295)(b0:0<=b)(b1:b<=4294967295)(w:World):
  Calls prog 168 #[.int .i64 45,.int .u32 a,.int .u32 b] w fun e w'=>e=.returned (.int .u32 (alu 45 a b))/\w'=w:=by
 go_enter func168,ntmps168
 go_wp2_with(go_at_call 197;refine(ziI a b a0 a1 b0 b1 _).mono ?_;rintro e w' ⟨rfl,rfl⟩)
 go_ret
 exact⟨rfl,rfl⟩
theorem zgj(op a b:Int)(w:World)(n28:(op==28)=false)(n29:(op==29)=false)(n30:(op==30)=false)(n31:(op==31)=false)(n32:(op==32)=false)(n33:(op==33)=false)(n34:(op==34)=false)(n35:(op==35)=false)(n36:(op==36)=false)(n37:(op==37)=false)(n38:(op==38)=false)(n39:(op==39)=false)(n40:(op==40)=false)(n41:(op==41)=false)(n42:(op==42)=false)(n43:(op==43)=false)(n44:(op==44)=false)(n45:(op==45)=false):
  Calls prog 168 #[.int .i64 op,.int .u32 a,.int .u32 b] w fun e w'=>e=.returned (.int .u32 0)/\w'=w:=by
 go_enter func168,ntmps168
 go_wp2
 go_ret
 exact⟨rfl,rfl⟩
theorem ziJ(op a b:Int)(n28:¬op=28)(n29:¬op=29)(n30:¬op=30)(n31:¬op=31)(n32:¬op=32)(n33:¬op=33)(n34:¬op=34)(n35:¬op=35)(n36:¬op=36)(n37:¬op=37)(n38:¬op=38)(n39:¬op=39)(n40:¬op=40)(n41:¬op=41)(n42:¬op=42)(n43:¬op=43)(n44:¬op=44)(n45:¬op=45):alu op a b=0:=by
 unfold alu
 simp only[n28,n29,n30,n31,n32,n33,n34,n35,n36,n37,n38,n39,n40,n41,n42,n43,n44,n45,if_false]
theorem zgk(op:Int)(a b:Int)(a0:0<=a)(a1:a<=4294967295)(b0:0<=b)(b1:b<=4294967295)(w:World):
  Calls prog 168 #[.int .i64 op,.int .u32 a,.int .u32 b] w fun e w'=>e=.returned (.int .u32 (alu op a b))/\w'=w:=by
 by_cases n28:op=28
 ·subst n28;exact zoK a b a0 a1 b0 b1 w
 by_cases n29:op=29
 ·subst n29;exact zoL a b a0 a1 b0 b1 w
 by_cases n30:op=30
 ·subst n30;exact zoQ a b a0 a1 b0 b1 w
 by_cases n31:op=31
 ·subst n31;exact zoT a b a0 a1 b0 b1 w
 by_cases n32:op=32
 ·subst n32;exact zoU a b a0 a1 b0 b1 w
 by_cases n33:op=33
 ·subst n33;exact zoN a b a0 a1 b0 b1 w
 by_cases n34:op=34
 ·subst n34;exact zoR a b a0 a1 b0 b1 w
 by_cases n35:op=35
 ·subst n35;exact zoS a b a0 a1 b0 b1 w
 by_cases n36:op=36
 ·subst n36;exact zoO a b a0 a1 b0 b1 w
 by_cases n37:op=37
 ·subst n37;exact zoP a b a0 a1 b0 b1 w
 by_cases n38:op=38
 ·subst n38;exact zoM a b a0 a1 b0 b1 w
 by_cases n39:op=39
 ·subst n39;exact zoV a b a0 a1 b0 b1 w
 by_cases n40:op=40
 ·subst n40;exact zoW a b a0 a1 b0 b1 w
 by_cases n41:op=41
 ·subst n41;exact zoX a b a0 a1 b0 b1 w
 by_cases n42:op=42
 ·subst n42;exact zoY a b a0 a1 b0 b1 w
 by_cases n43:op=43
 ·subst n43;exact zoZ a b a0 a1 b0 b1 w
 by_cases n44:op=44
 ·subst n44;exact zo0 a b a0 a1 b0 b1 w
 by_cases n45:op=45
 ·subst n45;exact zo1 a b a0 a1 b0 b1 w
 rw[ziJ op a b n28 n29 n30 n31 n32 n33 n34 n35 n36 n37 n38 n39 n40 n41 n42 n43 n44 n45]
 exact zgj op a b w (by simpa using n28) (by simpa using n29) (by simpa using n30) (by simpa using n31) (by simpa using n32) (by simpa using n33) (by simpa using n34) (by simpa using n35) (by simpa using n36) (by simpa using n37) (by simpa using n38) (by simpa using n39) (by simpa using n40) (by simpa using n41) (by simpa using n42) (by simpa using n43) (by simpa using n44) (by simpa using n45)
theorem zmZ(a b:Int)(a0:0<=a)(a1:a<=4294967295)(b0:0<=b)(b1:b<=4294967295)(w:World):
  Calls prog 167 #[.int .i64 5,.int .u32 a,.int .u32 b] w fun e w'=>e=.returned (.bool (holds 5 a b))/\w'=w:=by
 go_enter func167,ntmps167
 go_wp2
 go_ret
 exact⟨rfl,rfl⟩
theorem zm0(a b:Int)(a0:0<=a)(a1:a<=4294967295)(b0:0<=b)(b1:b<=4294967295)(w:World):
  Calls prog 167 #[.int .i64 6,.int .u32 a,.int .u32 b] w fun e w'=>e=.returned (.bool (holds 6 a b))/\w'=w:=by
 go_enter func167,ntmps167
 go_wp2
 go_ret
 exact⟨rfl,rfl⟩
theorem zm1(a b:Int)(a0:0<=a)(a1:a<=4294967295)(b0:0<=b)(b1:b<=4294967295)(w:World):
  Calls prog 167 #[.int .i64 7,.int .u32 a,.int .u32 b] w fun e w'=>e=.returned (.bool (holds 7 a b))/\w'=w:=by
 go_enter func167,ntmps167
 go_wp2_with(go_at_call 189;refine(xF a b a0 a1 b0 b1 _).mono ?_;rintro e w' ⟨rfl,rfl⟩)
 go_ret
 exact⟨rfl,rfl⟩
theorem zm2(a b:Int)(a0:0<=a)(a1:a<=4294967295)(b0:0<=b)(b1:b<=4294967295)(w:World):
  Calls prog 167 #[.int .i64 8,.int .u32 a,.int .u32 b] w fun e w'=>e=.returned (.bool (holds 8 a b))/\w'=w:=by
 go_enter func167,ntmps167
 go_wp2_with(go_at_call 189;refine(xF a b a0 a1 b0 b1 _).mono ?_;rintro e w' ⟨rfl,rfl⟩)
 go_ret
 exact⟨rfl,rfl⟩
theorem zm3(a b:Int)(a0:0<=a)(a1:a<=4294967295)(b0:0<=b)(b1:b<=4294967295)(w:World):
  Calls prog 167 #[.int .i64 9,.int .u32 a,.int .u32 b] w fun e w'=>e=.returned (.bool (holds 9 a b))/\w'=w:=by
 go_enter func167,ntmps167
 go_wp2
 go_ret
 exact⟨rfl,rfl⟩
theorem zk3(a b:Int)(a0:0<=a)(a1:a<=4294967295)(b0:0<=b)(b1:b<=4294967295)(w:World):
  Calls prog 167 #[.int .i64 10,.int .u32 a,.int .u32 b] w fun e w'=>e=.returned (.bool (holds 10 a b))/\w'=w:=by
 go_enter func167,ntmps167
 go_wp2
 go_ret
 exact⟨rfl,rfl⟩
theorem zcM(op a b:Int)(w:World)(n5:(op==5)=false)(n6:(op==6)=false)(n7:(op==7)=false)(n8:(op==8)=false)(n9:(op==9)=false)(n10:(op==10)=false):
  Calls prog 167 #[.int .i64 op,.int .u32 a,.int .u32 b] w fun e w'=>e=.returned (.bool false)/\w'=w:=by
 go_enter func167,ntmps167
 go_wp2
 go_ret
 exact⟨rfl,rfl⟩
theorem holds_none(op a b:Int)(n5:¬op=5)(n6:¬op=6)(n7:¬op=7)(n8:¬op=8)(n9:¬op=9)(n10:¬op=10):holds op a b=false:=by
 unfold holds
 simp only[n5,n6,n7,n8,n9,n10,if_false]
theorem zgl(op:Int)(a b:Int)(a0:0<=a)(a1:a<=4294967295)(b0:0<=b)(b1:b<=4294967295)(w:World):
  Calls prog 167 #[.int .i64 op,.int .u32 a,.int .u32 b] w fun e w'=>e=.returned (.bool (holds op a b))/\w'=w:=by
 by_cases n5:op=5
 ·subst n5;exact zmZ a b a0 a1 b0 b1 w
 by_cases n6:op=6
 ·subst n6;exact zm0 a b a0 a1 b0 b1 w
 by_cases n7:op=7
 ·subst n7;exact zm1 a b a0 a1 b0 b1 w
 by_cases n8:op=8
 ·subst n8;exact zm2 a b a0 a1 b0 b1 w
 by_cases n9:op=9
 ·subst n9;exact zm3 a b a0 a1 b0 b1 w
 by_cases n10:op=10
 ·subst n10;exact zk3 a b a0 a1 b0 b1 w
 rw[holds_none op a b n5 n6 n7 n8 n9 n10]
 exact zcM op a b w (by simpa using n5) (by simpa using n6) (by simpa using n7) (by simpa using n8) (by simpa using n9) (by simpa using n10)
theorem half(x k:Nat):x/2^(k+1)=x/2^k/2:=by
 rw[Nat.pow_succ,Nat.div_div_eq_div_mul]
def p256:Nat->Int
 |0=>1
 |1=>256
 |2=>65536
 |3=>16777216
 |_=>4294967296
theorem le_rng(f:Nat->Int)(j:Nat)(hj:j<=4)(hf:∀i,i<j->0<=f i/\f i<=255):0<=le f j/\le f j<=p256 j-1:=by
 rcases(by omega:j=0\/j=1\/j=2\/j=3\/j=4)with rfl|rfl|rfl|rfl|rfl
 ·exact⟨Int.le_refl 0,by show(0:Int)<=1-1;omega⟩
 ·have h0:=hf 0 (by omega)
  show 0<=f 0/\f 0<=256-1
  omega
 ·have h0:=hf 0 (by omega)
  have h1:=hf 1 (by omega)
  show 0<=f 0+f 1*256/\f 0+f 1*256<=65536-1
  omega
 ·have h0:=hf 0 (by omega)
  have h1:=hf 1 (by omega)
  have h2:=hf 2 (by omega)
  show 0<=f 0+f 1*256+f 2*65536/\f 0+f 1*256+f 2*65536<=16777216-1
  omega
 ·have h0:=hf 0 (by omega)
  have h1:=hf 1 (by omega)
  have h2:=hf 2 (by omega)
  have h3:=hf 3 (by omega)
  show 0<=f 0+f 1*256+f 2*65536+f 3*16777216/\f 0+f 1*256+f 2*65536+f 3*16777216<=4294967296-1
  omega
structure In where
 op:Int
 rd:Nat
 s1:Nat
 s2:Nat
 im:Int
structure Cm where
 pc:Int
 next:Int
 st:Int
 ca:Int
 rd:Nat
 val:Int
 pl:Int
 many:Int
 data:Int
 out:Bool
 told:Int
def opn(op:Int):Int:=if op=19 then 28 else if op=20 then 31 else if op=21 then 32 else if op=22 then 33 else if op=23 then 36 else if op=24 then 37 else if op=25 then 30 else if op=26 then 34 else 35
def zin:In:=⟨0,0,0,0,0⟩
def zcm:Cm:=⟨0,0,0,0,0,0,0,0,0,false,0⟩
def qj(pc k:Int):Cm:=⟨pc,pc,2,k,0,0,0,0,0,false,0⟩
def onC(pc:Int)(rd:Nat)(v:Int):Cm:=⟨pc,(pc+4)%4294967296,0,0,rd,if rd=0 then 0 else v,0,0,0,false,0⟩
def sts(i:In):Bool:=decide (16<=i.op/\i.op<=18)
def trn(i:In):Bool:=decide (4<=i.op/\i.op<=10)
def gvs(i:In):Nat:=if i.op=46 then 0 else i.rd
def ra(i:In):Nat:=if i.op=47 then 17 else i.s1
def rb(i:In):Nat:=if i.op=47 then 10 else i.s2
def place(i:In)(a:Int):Int:=(a+i.im)%4294967296
def fits(n:Nat)(x many:Int):Bool:=decide (0<=x/\x%many=0/\x+many<=n)
def qc(n:Nat)(f:Nat->Int)(i:In)(pc a:Int):Cm:=
 if fits n (place i a) (ldn i.op)then onC pc i.rd (ldv i.op (fun k=>f ((place i a).toNat+k)))else qj pc 3
def ziK(pc nx:Int)(rd:Nat)(v:Int):Cm:=⟨pc,nx,0,0,rd,if rd=0 then 0 else v,0,0,0,false,0⟩
def nxW(i:In)(pc a b:Int):Int:=
 if i.op=3 then(pc+i.im%4294967296)%4294967296
 else if i.op=4 then(a+i.im%4294967296)%4294967296-(a+i.im%4294967296)%4294967296%2
 else if holds i.op a b=true then(pc+i.im%4294967296)%4294967296
 else(pc+4)%4294967296
def rkW(i:In)(pc a b:Int):Int:=
 if i.op=1 then i.im%4294967296
 else if i.op=2 then(pc+i.im%4294967296)%4294967296
 else if i.op=3\/i.op=4 then(pc+4)%4294967296
 else if 19<=i.op/\i.op<=27 then alu (opn i.op) a (i.im%4294967296)
 else alu i.op a b
def doW(i:In)(pc a b:Int)(n:Nat):Cm:=
 if sts i=true then
  (if fits n (place i a) (stn i.op)=true then⟨pc,(pc+4)%4294967296,0,0,0,0,place i a,stn i.op,b%p256 (stn i.op).toNat,false,0⟩else qj pc 4)
 else if i.op=46 then onC pc 0 0
 else if i.op=47 then(if a=0 then⟨pc,pc,1,0,0,0,0,0,0,false,0⟩else if a=1 then⟨pc,(pc+4)%4294967296,0,0,0,0,0,0,0,true,b⟩else qj pc 5)
 else if i.op=48 then qj pc 6
 else ziK pc (nxW i pc a b) i.rd (rkW i pc a b)
def allW(n:Nat)(f:Nat->Int)(i:In)(pc a b:Int):Cm:=if ldn i.op≠0 then qc n f i pc a else doW i pc a b n
end Go.Proofs.YtpiohehijkpghacGreatDoor
namespace Go.Proofs.YtpiohehijkpghacGreatDoor.Wi
open Go.RowKit
abbrev Sl:=Int×Bool
def scs:List Sl->List Value
 |[]=>[]
 |p::l=>.int .i64 p.1::.bool p.2::scs l
theorem kL:∀l:List Sl,(scs l).length=l.length*2
 |[]=>rfl
 |p::l=>by have:=kL l;simp[scs,this];omega
theorem zcN:∀l m:List Sl,scs (l++m)=scs l++scs m
 |[],m=>rfl
 |p::l,m=>by have:=zcN l m;simp[scs,this]
theorem zaN:∀(l:List Sl) (k:Nat) (p:Sl),l[k]?=some p->(scs l)[k*2]?=some (.int .i64 p.1)
 |[],k,p,h=>by simp at h
 |q::l,0,p,h=>by simp at h;subst h;rfl
 |q::l,k+1,p,h=>by
  have:=zaN l k p (by simpa using h)
  rw[show(k+1)*2=k*2+1+1 by omega]
  simpa[scs]using this
theorem ka:∀(l:List Sl) (k:Nat) (p:Sl),l[k]?=some p->(scs l)[k*2+1]?=some (.bool p.2)
 |[],k,p,h=>by simp at h
 |q::l,0,p,h=>by simp at h;subst h;rfl
 |q::l,k+1,p,h=>by
  have:=ka l k p (by simpa using h)
  rw[show(k+1)*2+1=k*2+1+1+1 by omega]
  simpa[scs]using this
theorem yZ:∀(l:List Sl),∀u∈scs l,u.oneCell'=true
 |[],u,h=>by simp[scs]at h
 |p::l,u,h=>by
  simp only[scs,List.mem_cons]at h
  rcases h with rfl|rfl|h
  ·rfl
  ·rfl
  ·exact yZ l u h
theorem zd0:∀(l:List Sl) (m:Nat),scs (l.drop m)=(scs l).drop (m*2)
 |l,0=>by simp
 |[],m+1=>by simp[scs]
 |p::l,m+1=>by
  have:=zd0 l m
  rw[show(m+1)*2=m*2+1+1 by omega]
  simpa[scs]using this
theorem zgm:∀(l:List Sl) (k:Nat) (s:Int),(l[k]?).map (·.1)=some s->(scs l).set (k*2+1) (.bool true)=scs (l.set k (s,true))
 |[],k,s,h=>by simp at h
 |q::l,0,s,h=>by simp at h;subst h;rfl
 |q::l,k+1,s,h=>by
  have:=zgm l k s (by simpa using h)
  rw[show(k+1)*2+1=k*2+1+1+1 by omega]
  simp[scs,this]
def ics(l:List Int):List Value:=l.map fun x=>Value.int .i64 x
theorem jk(l:List Int):(ics l).length=l.length*1:=by simp[ics]
theorem zaO(l m:List Int):ics (l++m)=ics l++ics m:=by simp[ics]
theorem jR{l:List Int}{k:Nat}{x:Int}(h:l[k]?=some x):(ics l)[k]?=some (.int .i64 x):=by simp[ics,h]
theorem jA(l:List Int):∀u∈ics l,u.oneCell'=true:=by
 intro u hu
 obtain⟨x,_,rfl⟩:=List.mem_map.1 hu
 rfl
theorem zcO(l:List Int)(k:Nat)(x:Int):(ics l).set k (.int .i64 x)=ics (l.set k x):=by simp[ics,List.map_set]
structure LC(w:World)(a:Option Addr)(n c size:Nat)(cs:List Value):Prop where
 len:cs.length=n*size
 le:n<=c
 top:c<=maxLen
 nil:a=none->n=0/\c=0
 one:∀u∈cs,u.oneCell'=true
 ad:∀x,a=some x->0<n->∃b o,x=⟨b,o,none⟩/\b<w.heap.size/\∀j u,cs[j]?=some u->w.cell? ⟨b,o+j,none⟩=some u
theorem LC.below{w w':World}{a:Option Addr}{n c size:Nat}{cs:List Value}(h:LC w a n c size cs){B:Nat}(hB:w.heap.size<=B)(hb:Below B w w'):LC w' a n c size cs:=
 ⟨h.len,h.le,h.top,h.nil,h.one,fun x hx h0=>by
  obtain⟨b,o,rfl,hlt,hc⟩:=h.ad x hx h0
  exact⟨b,o,rfl,Nat.lt_of_lt_of_le hlt hb.size,fun j u hj=>(hb.cell (p:=⟨b,o+j,none⟩) (Nat.lt_of_lt_of_le hlt hB)).trans (hc j u hj)⟩⟩
theorem LC.sure{w:World}{a:Option Addr}{n c size:Nat}{cs:List Value}(h:LC w a n c size cs)(hn:0<n):∃b o,a=some ⟨b,o,none⟩/\b<w.heap.size/\∀j u,cs[j]?=some u->w.cell? ⟨b,o+j,none⟩=some u:=by
 cases a with
 |none=>have:=(h.nil rfl).1;omega
 |some x=>
  obtain⟨b,o,rfl,hc⟩:=h.ad x rfl hn
  exact⟨b,o,rfl,hc⟩
def FarC(B:Nat)(a:Option Addr):Prop:=∀x,a=some x->B<=x.block
theorem vb(w:World)(size:Nat):LC w none 0 0 size []:=⟨by simp,Nat.le_refl _,by unfold maxLen;omega,fun _=>⟨rfl,rfl⟩,fun u hu=>by simp at hu,fun x hx _=>by cases hx⟩
theorem zbF(B:Nat):FarC B none:=fun x hx=>by cases hx
theorem qv{w:World}{B e n size:Nat}{v:Value}{cs:List Value}(hown:w.ownsRow B e size v n cs)(h1:∀u∈cs,u.oneCell'=true):∃a c,v=.slice a n c/\LC w a n c size cs/\FarC B a:=by
 have hown0:=hown
 obtain⟨hl,hcase⟩:=hown
 rcases hcase with⟨rfl,rfl⟩|⟨g,cap,cur,rfl,hg,hh,hn',hcap,hsz,htake⟩
 ·obtain rfl:cs=[]:=List.eq_nil_of_length_eq_zero (by simpa using hl)
  exact⟨none,0,rfl,vb _ _,zbF _⟩
 ·refine⟨_,cap,rfl,⟨hl,hn',hcap,fun h=>(nomatch h),h1,fun x hx _=>⟨g,0,(Option.some.inj hx).symm,(Array.getElem?_eq_some_iff.1 hh).1,fun j u hj=>?_⟩⟩,fun x hx=>by obtain rfl:=Option.some.inj hx;exact hg⟩
  have:=hown0.cells (g:=g) rfl j _ hj
  rwa [Addr.add_lit]at this
theorem LC.drop{w:World}{b o n c size:Nat}{cs:List Value}(h:LC w (some ⟨b,o,none⟩) n c size cs)(m:Nat)(hm:m<=n){a:Option Addr}(ha:m<n->a=some ⟨b,o+m*size,none⟩)(hs:a.isSome=true):LC w a (n-m) (c-m) size (cs.drop (m*size)):=by
 refine⟨by rw[List.length_drop,h.len,Nat.sub_mul],by have:=h.le;omega,by have:=h.top;omega,fun e=>by rw[e]at hs;simp at hs,fun u hu=>h.one u (List.mem_of_mem_drop hu),fun x hx h0=>?_⟩
 obtain⟨b',o',e,hlt,hc⟩:=h.ad _ rfl (by omega)
 cases e
 rw[ha (by omega)]at hx
 refine⟨b,o+m*size,(Option.some.inj hx).symm,hlt,fun j u hj=>?_⟩
 rw[List.getElem?_drop]at hj
 rw[Nat.add_assoc]
 exact hc _ _ hj
theorem zv{P:Program}(w:World){ops:Array Oper}{rest:List Oper}{o:Oper}{a:Act}{Q:Exit->Act->World->Prop}(hgd:o.guard=none)(s x:Operand)(t:TypeId)
  (ho:o.op=.call {callee:=.builtin .append,args:=#[s,x],argTypes:=#[t,t]})
  (base:Nat) (e:TypeId) (i:TypeInfo) (z:Value) (size bytes:Nat) (ht:P.underlying t=some (.slice e)) (hi:P.info? e=some i) (hz:i.zero=some z)
  (hsize:i.size=size) (hby:i.bytes=bytes) (hzs:z.cells.size=size) (hsz:0<size)
  (v:Value) (n:Nat) (xs:List Value) (hs:a.eval s=v) (hown:w.ownsRow base e size v n xs)
  (ao:Option Addr) (m c:Nat) (cs:List Value) (hx:a.eval x=.slice ao m c) (hl:LC w ao m c size cs) (h63:n+m<=maxLen) (hb:(n+m)*bytes<=140737488355328) (hbase:base<=w.heap.size)
  (h:∀v' w',w'.ownsRow base e size v' (n+m) (xs++cs)->w.grownBy w' v.ownBlock->wpList P ops Q rest (a.put o.dst v') w'):wpList P ops Q (o::rest) a w:=by
 cases ao with
 |some ad=>
  by_cases hm:0<m
  ·refine wpList_append_own w hgd s x t ho base e i z size bytes ht hi hz hsize hby hzs hsz v n _ hs hown ad m c cs hx hl.len (fun j u hj=>?_) hl.one h63 hb hbase fun v' w' h1 h2 _=>h v' w' h1 h2
   obtain⟨b,o',rfl,_,hc⟩:=hl.ad ad rfl hm
   rw[Addr.add_lit]
   exact hc j u hj
  ·obtain rfl:m=0:=by omega
   refine wpList_append_own w hgd s x t ho base e i z size bytes ht hi hz hsize hby hzs hsz v n _ hs hown ad 0 c cs hx hl.len (fun j u hj=>?_) hl.one h63 hb hbase fun v' w' h1 h2 _=>h v' w' h1 h2
   have hnil:cs=[]:=List.eq_nil_of_length_eq_zero (by simpa using hl.len)
   rw[hnil]at hj
   simp at hj
 |none=>
  obtain⟨rfl,rfl⟩:=hl.nil rfl
  obtain rfl:cs=[]:=List.eq_nil_of_length_eq_zero (by simpa using hl.len)
  refine wpList_plain hgd fun K hK'=>?_
  have hrun:=run_append_owned_none (P:=P) w base t o.type e i size ht hi v n _ hown
  unfold Oper.wp
  simp only[execOp,ho,resolve,invoke,builtin,Sem.run_bind,Sem.run_pure,Result.andThen_ok,List.map_toArray,List.map_cons,List.map_nil,hs,hx,hrun]
  exact hK' _ _ (h v w (by simpa using hown) (World.grownBy.refl _ _))
structure First(p:Sl->Bool)(l:List Sl)(m:Nat):Prop where
 le:m<=l.length
 no:∀j q,j<m->l[j]?=some q->p q=false
 yes:∀q,l[m]?=some q->p q=true
structure Goes(l:List Sl)(most:Int)(m:Nat):Prop where
 le:m<=l.length
 go:∀j q,j<m->l[j]?=some q->(j:Int)<most/\q.2=true
 stop:∀q,l[m]?=some q->¬((m:Int)<most/\q.2=true)
theorem zgn{l:List Sl}{k:Nat}(h:k<l.length):∃s d,l[k]?=some (s,d):=⟨_,_,List.getElem?_eq_getElem h⟩
theorem take_at{α:Type}{l:List α}{k:Nat}{p:α}(h:l[k]?=some p):l.take (k+1)=l.take k++[p]:=by
 rw[List.take_add_one,h];rfl
def cutS(l:List Sl)(seq:Int):List Int:=((l.filter fun q=>decide (seq<=q.1)).map (·.1)).reverse
def vd(l:List Sl)(seq:Int):List Sl:=l.filter fun q=>!decide (seq<=q.1)
end Go.Proofs.YtpiohehijkpghacGreatDoor.Wi
