/- What instructions do, as plain numbers. Nothing of the program is named here. -/
import Derived.Test.YtpiohehijkpghabGreatDoorRows
import Derived.WalkSpells
import Derived.WalkLawsBesides
import Derived.Laws.Bits64
import Derived.Test.YtpiohehijkpghabGreatDoorS01
set_option maxHeartbeats 1000000
set_option linter.unusedVariables false
open Go.Proofs.Tryz
namespace Go.Proofs.YtpiohehijkpghabGreatDoor
open Go.RowKit
open Hy
theorem zv{k:IntKind}{a b:Int}(h:a=b):Ending.returned (.int k a)=.returned (.int k b):=by rw[h]
theorem zdX{a b:Bool}(h:a=b):Ending.returned (.bool a)=.returned (.bool b):=by rw[h]
theorem yO(b:Int)(b0:0<=b)(b1:b<=4294967295)(w:World):
  Calls prog 156 #[.int .u32 b] w fun e w'=>e=.returned (.int .u32 (b%32))/\w'=w:=by
 go_enter func156,ntmps156
 go_wp2
 go_ret
 exact⟨zv (low5 b b0 b1),rfl⟩
theorem xI(a b:Int)(a0:0<=a)(a1:a<=4294967295)(b0:0<=b)(b1:b<=4294967295)(w:World):
  Calls prog 155 #[.int .u32 a,.int .u32 b] w fun e w'=>e=.returned (.bool (decide (sg a<sg b)))/\w'=w:=by
 go_enter func155,ntmps155
 go_wp2
 go_ret
 exact⟨zdX (by rw[zY a a0 a1,zY b b0 b1]),rfl⟩
theorem wrap64_in(n:Int)(h0:-9223372036854775808<=n)(h1:n<=9223372036854775807):wrap64 n=n:=by
 unfold wrap64;omega
theorem zbK(n:Int):IntKind.u64.wrap (wrap64 n)/4294967296%4294967296=n/4294967296%4294967296:=by
 rw[IntKind.wrap_u64];unfold wrap64;omega
theorem zeW(n:Int):IntKind.u64.wrap n/4294967296%4294967296=n/4294967296%4294967296:=by
 rw[IntKind.wrap_u64];omega
theorem kd(a b:Int)(a0:0<=a)(a1:a<=4294967295)(b0:0<=b)(b1:b<=4294967295)(w:World):
  Calls prog 160 #[.int .u32 a,.int .u32 b] w fun e w'=>e=.returned (.int .u32 (alu 42 a b))/\w'=w:=by
 by_cases hb:b=0
 ·subst hb
  go_enter func160,ntmps160
  go_wp2
  go_ret
  exact⟨rfl,rfl⟩
 ·have hb':(b==0)=false:=by simpa using hb
  have hs:¬wrap64 (wrap32 b)=0:=fun h=>hb ((zaG b b0 b1).1 (zY b b0 b1▸h))
  have ha:=zg a a0 a1
  have hd:=kO (sg a) (sg b) 2147483648 (by omega) (by omega)
  go_enter func160,ntmps160
  go_wp2
  go_ret
  exact⟨zv (by rw[zY a a0 a1,zY b b0 b1,wrap64_in _ (by omega) (by omega)];simp[alu,hb]),rfl⟩
theorem zbL(a b:Int)(a0:0<=a)(a1:a<=4294967295)(b0:0<=b)(b1:b<=4294967295)(w:World):
  Calls prog 161 #[.int .u32 a,.int .u32 b] w fun e w'=>e=.returned (.int .u32 (alu 43 a b))/\w'=w:=by
 by_cases hb:b=0
 ·subst hb
  go_enter func161,ntmps161
  go_wp2
  go_ret
  exact⟨rfl,rfl⟩
 ·have hb':(b==0)=false:=by simpa using hb
  go_enter func161,ntmps161
  go_wp2
  go_ret
  exact⟨zv (by simp[alu,hb]),rfl⟩
theorem vO(a b:Int)(a0:0<=a)(a1:a<=4294967295)(b0:0<=b)(b1:b<=4294967295)(w:World):
  Calls prog 162 #[.int .u32 a,.int .u32 b] w fun e w'=>e=.returned (.int .u32 (alu 44 a b))/\w'=w:=by
 by_cases hb:b=0
 ·subst hb
  go_enter func162,ntmps162
  go_wp2
  go_ret
  exact⟨rfl,rfl⟩
 ·have hb':(b==0)=false:=by simpa using hb
  have hs:¬wrap64 (wrap32 b)=0:=fun h=>hb ((zaG b b0 b1).1 (zY b b0 b1▸h))
  have ha:=zg a a0 a1
  have hd:=zai (sg a) (sg b) 2147483648 (by omega) (by omega)
  go_enter func162,ntmps162
  go_wp2
  go_ret
  exact⟨zv (by rw[zY a a0 a1,zY b b0 b1];simp[alu,hb]),rfl⟩
theorem ziP(a b:Int)(a0:0<=a)(a1:a<=4294967295)(b0:0<=b)(b1:b<=4294967295)(w:World):
  Calls prog 163 #[.int .u32 a,.int .u32 b] w fun e w'=>e=.returned (.int .u32 (alu 45 a b))/\w'=w:=by
 by_cases hb:b=0
 ·subst hb
  go_enter func163,ntmps163
  go_wp2
  go_ret
  exact⟨rfl,rfl⟩
 ·have hb':(b==0)=false:=by simpa using hb
  go_enter func163,ntmps163
  go_wp2
  go_ret
  exact⟨zv (by simp[alu,hb]),rfl⟩
theorem zps(a b:Int)(a0:0<=a)(a1:a<=4294967295)(b0:0<=b)(b1:b<=4294967295)(w:World):
  Calls prog 142 #[.int .i64 28,.int .u32 a,.int .u32 b] w fun e w'=>e=.returned (.int .u32 (alu 28 a b))/\w'=w:=by
 go_enter func142,ntmps142
 go_wp2
 go_ret
 exact⟨rfl,rfl⟩
theorem zpt(a b:Int)(a0:0<=a)(a1:a<=4294967295)(b0:0<=b)(b1:b<=4294967295)(w:World):
  Calls prog 142 #[.int .i64 29,.int .u32 a,.int .u32 b] w fun e w'=>e=.returned (.int .u32 (alu 29 a b))/\w'=w:=by
 go_enter func142,ntmps142
 go_wp2
 go_ret
 exact⟨rfl,rfl⟩
theorem zpu(a b:Int)(a0:0<=a)(a1:a<=4294967295)(b0:0<=b)(b1:b<=4294967295)(w:World):
  Calls prog 142 #[.int .i64 38,.int .u32 a,.int .u32 b] w fun e w'=>e=.returned (.int .u32 (alu 38 a b))/\w'=w:=by
 go_enter func142,ntmps142
 go_wp2
 go_ret
 exact⟨rfl,rfl⟩
theorem zpv(a b:Int)(a0:0<=a)(a1:a<=4294967295)(b0:0<=b)(b1:b<=4294967295)(w:World):
  Calls prog 142 #[.int .i64 33,.int .u32 a,.int .u32 b] w fun e w'=>e=.returned (.int .u32 (alu 33 a b))/\w'=w:=by
 go_enter func142,ntmps142
 go_wp2
 go_ret
 exact⟨zv (u32_xor a b a0 (by omega) b0 (by omega)),rfl⟩
theorem zpw(a b:Int)(a0:0<=a)(a1:a<=4294967295)(b0:0<=b)(b1:b<=4294967295)(w:World):
  Calls prog 142 #[.int .i64 36,.int .u32 a,.int .u32 b] w fun e w'=>e=.returned (.int .u32 (alu 36 a b))/\w'=w:=by
 go_enter func142,ntmps142
 go_wp2
 go_ret
 exact⟨zv (u32_or a b a0 (by omega) b0 (by omega)),rfl⟩
theorem zpx(a b:Int)(a0:0<=a)(a1:a<=4294967295)(b0:0<=b)(b1:b<=4294967295)(w:World):
  Calls prog 142 #[.int .i64 37,.int .u32 a,.int .u32 b] w fun e w'=>e=.returned (.int .u32 (alu 37 a b))/\w'=w:=by
 go_enter func142,ntmps142
 go_wp2
 go_ret
 exact⟨zv (u32_and a b a0 (by omega) b0 (by omega)),rfl⟩
theorem zpy(a b:Int)(a0:0<=a)(a1:a<=4294967295)(b0:0<=b)(b1:b<=4294967295)(w:World):
  Calls prog 142 #[.int .i64 30,.int .u32 a,.int .u32 b] w fun e w'=>e=.returned (.int .u32 (alu 30 a b))/\w'=w:=by
 have s0:0<=b%32:=by omega
 have s1:b%32<=32:=by omega
 go_enter func142,ntmps142
 go_wp2_with(go_at_call 156;refine(yO b b0 b1 _).mono ?_;rintro e w' ⟨rfl,rfl⟩)
 go_ret
 exact⟨zv (by simp[alu,zcV]),rfl⟩
theorem zpz(a b:Int)(a0:0<=a)(a1:a<=4294967295)(b0:0<=b)(b1:b<=4294967295)(w:World):
  Calls prog 142 #[.int .i64 34,.int .u32 a,.int .u32 b] w fun e w'=>e=.returned (.int .u32 (alu 34 a b))/\w'=w:=by
 have s0:0<=b%32:=by omega
 have s1:b%32<=32:=by omega
 go_enter func142,ntmps142
 go_wp2_with(go_at_call 156;refine(yO b b0 b1 _).mono ?_;rintro e w' ⟨rfl,rfl⟩)
 go_ret
 exact⟨zv (by simp[alu,zcV]),rfl⟩
theorem zpA(a b:Int)(a0:0<=a)(a1:a<=4294967295)(b0:0<=b)(b1:b<=4294967295)(w:World):
  Calls prog 142 #[.int .i64 35,.int .u32 a,.int .u32 b] w fun e w'=>e=.returned (.int .u32 (alu 35 a b))/\w'=w:=by
 have s0:0<=b%32:=by omega
 have s1:b%32<=32:=by omega
 go_enter func142,ntmps142
 go_wp2_with(go_at_call 156;refine(yO b b0 b1 _).mono ?_;rintro e w' ⟨rfl,rfl⟩)
 go_ret
 exact⟨zv (by simp[alu,zcV,zgh a a0 a1]),rfl⟩
theorem zpB(a b:Int)(a0:0<=a)(a1:a<=4294967295)(b0:0<=b)(b1:b<=4294967295)(w:World):
  Calls prog 142 #[.int .i64 31,.int .u32 a,.int .u32 b] w fun e w'=>e=.returned (.int .u32 (alu 31 a b))/\w'=w:=by
 by_cases h:wrap64 (wrap32 a)<wrap64 (wrap32 b)
 all_goals
  go_enter func142,ntmps142
  go_wp2
  go_ret
  exact⟨zv (by rw[zY a a0 a1,zY b b0 b1]at h;simp[alu,h]),rfl⟩
theorem zpC(a b:Int)(a0:0<=a)(a1:a<=4294967295)(b0:0<=b)(b1:b<=4294967295)(w:World):
  Calls prog 142 #[.int .i64 32,.int .u32 a,.int .u32 b] w fun e w'=>e=.returned (.int .u32 (alu 32 a b))/\w'=w:=by
 by_cases h:a<b
 all_goals
  go_enter func142,ntmps142
  go_wp2
  go_ret
  exact⟨zv (by simp[alu,h]),rfl⟩
theorem zpD(a b:Int)(a0:0<=a)(a1:a<=4294967295)(b0:0<=b)(b1:b<=4294967295)(w:World):
  Calls prog 142 #[.int .i64 39,.int .u32 a,.int .u32 b] w fun e w'=>e=.returned (.int .u32 (alu 39 a b))/\w'=w:=by
 have ha:=zg a a0 a1
 have hb:=zg b b0 b1
 go_enter func142,ntmps142
 go_wp2
 go_ret
 exact⟨zv (by rw[zbK,zY a a0 a1,zY b b0 b1];rfl),rfl⟩
theorem zpE(a b:Int)(a0:0<=a)(a1:a<=4294967295)(b0:0<=b)(b1:b<=4294967295)(w:World):
  Calls prog 142 #[.int .i64 40,.int .u32 a,.int .u32 b] w fun e w'=>e=.returned (.int .u32 (alu 40 a b))/\w'=w:=by
 have ha:=zg a a0 a1
 have hb:=zg b b0 b1
 go_enter func142,ntmps142
 go_wp2
 go_ret
 exact⟨zv (by rw[zbK,zY a a0 a1];rfl),rfl⟩
theorem zpF(a b:Int)(a0:0<=a)(a1:a<=4294967295)(b0:0<=b)(b1:b<=4294967295)(w:World):
  Calls prog 142 #[.int .i64 41,.int .u32 a,.int .u32 b] w fun e w'=>e=.returned (.int .u32 (alu 41 a b))/\w'=w:=by
 have ha:=zg a a0 a1
 have hb:=zg b b0 b1
 go_enter func142,ntmps142
 go_wp2
 go_ret
 exact⟨zv (zeW _),rfl⟩
theorem zpG(a b:Int)(a0:0<=a)(a1:a<=4294967295)(b0:0<=b)(b1:b<=4294967295)(w:World):
  Calls prog 142 #[.int .i64 42,.int .u32 a,.int .u32 b] w fun e w'=>e=.returned (.int .u32 (alu 42 a b))/\w'=w:=by
 go_enter func142,ntmps142
 go_wp2_with(go_at_call 160;refine(kd a b a0 a1 b0 b1 _).mono ?_;rintro e w' ⟨rfl,rfl⟩)
 go_ret
 exact⟨rfl,rfl⟩
theorem zpH(a b:Int)(a0:0<=a)(a1:a<=4294967295)(b0:0<=b)(b1:b<=4294967295)(w:World):
  Calls prog 142 #[.int .i64 43,.int .u32 a,.int .u32 b] w fun e w'=>e=.returned (.int .u32 (alu 43 a b))/\w'=w:=by
 go_enter func142,ntmps142
 go_wp2_with(go_at_call 161;refine(zbL a b a0 a1 b0 b1 _).mono ?_;rintro e w' ⟨rfl,rfl⟩)
 go_ret
 exact⟨rfl,rfl⟩
theorem zpI(a b:Int)(a0:0<=a)(a1:a<=4294967295)(b0:0<=b)(b1:b<=4294967295)(w:World):
  Calls prog 142 #[.int .i64 44,.int .u32 a,.int .u32 b] w fun e w'=>e=.returned (.int .u32 (alu 44 a b))/\w'=w:=by
 go_enter func142,ntmps142
 go_wp2_with(go_at_call 162;refine(vO a b a0 a1 b0 b1 _).mono ?_;rintro e w' ⟨rfl,rfl⟩)
 go_ret
 exact⟨rfl,rfl⟩
theorem zpJ(a b:Int)(a0:0<=a)(a1:a<=4294967295)(b0:0<=b)(b1:b<=4294967295)(w:World):
  Calls prog 142 #[.int .i64 45,.int .u32 a,.int .u32 b] w fun e w'=>e=.returned (.int .u32 (alu 45 a b))/\w'=w:=by
 go_enter func142,ntmps142
 go_wp2_with(go_at_call 163;refine(ziP a b a0 a1 b0 b1 _).mono ?_;rintro e w' ⟨rfl,rfl⟩)
 go_ret
 exact⟨rfl,rfl⟩
theorem zgj(op a b:Int)(w:World)(n28:(op==28)=false)(n29:(op==29)=false)(n30:(op==30)=false)(n31:(op==31)=false)(n32:(op==32)=false)(n33:(op==33)=false)(n34:(op==34)=false)(n35:(op==35)=false)(n36:(op==36)=false)(n37:(op==37)=false)(n38:(op==38)=false)(n39:(op==39)=false)(n40:(op==40)=false)(n41:(op==41)=false)(n42:(op==42)=false)(n43:(op==43)=false)(n44:(op==44)=false)(n45:(op==45)=false):
  Calls prog 142 #[.int .i64 op,.int .u32 a,.int .u32 b] w fun e w'=>e=.returned (.int .u32 0)/\w'=w:=by
 go_enter func142,ntmps142
 go_wp2
 go_ret
 exact⟨rfl,rfl⟩
theorem zdY(op a b:Int)(n28:¬op=28)(n29:¬op=29)(n30:¬op=30)(n31:¬op=31)(n32:¬op=32)(n33:¬op=33)(n34:¬op=34)(n35:¬op=35)(n36:¬op=36)(n37:¬op=37)(n38:¬op=38)(n39:¬op=39)(n40:¬op=40)(n41:¬op=41)(n42:¬op=42)(n43:¬op=43)(n44:¬op=44)(n45:¬op=45):alu op a b=0:=by
 unfold alu
 simp only[n28,n29,n30,n31,n32,n33,n34,n35,n36,n37,n38,n39,n40,n41,n42,n43,n44,n45,if_false]
theorem zgk(op:Int)(a b:Int)(a0:0<=a)(a1:a<=4294967295)(b0:0<=b)(b1:b<=4294967295)(w:World):
  Calls prog 142 #[.int .i64 op,.int .u32 a,.int .u32 b] w fun e w'=>e=.returned (.int .u32 (alu op a b))/\w'=w:=by
 by_cases n28:op=28
 ·subst n28;exact zps a b a0 a1 b0 b1 w
 by_cases n29:op=29
 ·subst n29;exact zpt a b a0 a1 b0 b1 w
 by_cases n30:op=30
 ·subst n30;exact zpy a b a0 a1 b0 b1 w
 by_cases n31:op=31
 ·subst n31;exact zpB a b a0 a1 b0 b1 w
 by_cases n32:op=32
 ·subst n32;exact zpC a b a0 a1 b0 b1 w
 by_cases n33:op=33
 ·subst n33;exact zpv a b a0 a1 b0 b1 w
 by_cases n34:op=34
 ·subst n34;exact zpz a b a0 a1 b0 b1 w
 by_cases n35:op=35
 ·subst n35;exact zpA a b a0 a1 b0 b1 w
 by_cases n36:op=36
 ·subst n36;exact zpw a b a0 a1 b0 b1 w
 by_cases n37:op=37
 ·subst n37;exact zpx a b a0 a1 b0 b1 w
 by_cases n38:op=38
 ·subst n38;exact zpu a b a0 a1 b0 b1 w
 by_cases n39:op=39
 ·subst n39;exact zpD a b a0 a1 b0 b1 w
 by_cases n40:op=40
 ·subst n40;exact zpE a b a0 a1 b0 b1 w
 by_cases n41:op=41
 ·subst n41;exact zpF a b a0 a1 b0 b1 w
 by_cases n42:op=42
 ·subst n42;exact zpG a b a0 a1 b0 b1 w
 by_cases n43:op=43
 ·subst n43;exact zpH a b a0 a1 b0 b1 w
 by_cases n44:op=44
 ·subst n44;exact zpI a b a0 a1 b0 b1 w
 by_cases n45:op=45
 ·subst n45;exact zpJ a b a0 a1 b0 b1 w
 rw[zdY op a b n28 n29 n30 n31 n32 n33 n34 n35 n36 n37 n38 n39 n40 n41 n42 n43 n44 n45]
 exact zgj op a b w (by simpa using n28) (by simpa using n29) (by simpa using n30) (by simpa using n31) (by simpa using n32) (by simpa using n33) (by simpa using n34) (by simpa using n35) (by simpa using n36) (by simpa using n37) (by simpa using n38) (by simpa using n39) (by simpa using n40) (by simpa using n41) (by simpa using n42) (by simpa using n43) (by simpa using n44) (by simpa using n45)
theorem zne(a b:Int)(a0:0<=a)(a1:a<=4294967295)(b0:0<=b)(b1:b<=4294967295)(w:World):
  Calls prog 141 #[.int .i64 5,.int .u32 a,.int .u32 b] w fun e w'=>e=.returned (.bool (holds 5 a b))/\w'=w:=by
 go_enter func141,ntmps141
 go_wp2
 go_ret
 exact⟨rfl,rfl⟩
theorem znf(a b:Int)(a0:0<=a)(a1:a<=4294967295)(b0:0<=b)(b1:b<=4294967295)(w:World):
  Calls prog 141 #[.int .i64 6,.int .u32 a,.int .u32 b] w fun e w'=>e=.returned (.bool (holds 6 a b))/\w'=w:=by
 go_enter func141,ntmps141
 go_wp2
 go_ret
 exact⟨rfl,rfl⟩
theorem zng(a b:Int)(a0:0<=a)(a1:a<=4294967295)(b0:0<=b)(b1:b<=4294967295)(w:World):
  Calls prog 141 #[.int .i64 7,.int .u32 a,.int .u32 b] w fun e w'=>e=.returned (.bool (holds 7 a b))/\w'=w:=by
 go_enter func141,ntmps141
 go_wp2_with(go_at_call 155;refine(xI a b a0 a1 b0 b1 _).mono ?_;rintro e w' ⟨rfl,rfl⟩)
 go_ret
 exact⟨rfl,rfl⟩
theorem znh(a b:Int)(a0:0<=a)(a1:a<=4294967295)(b0:0<=b)(b1:b<=4294967295)(w:World):
  Calls prog 141 #[.int .i64 8,.int .u32 a,.int .u32 b] w fun e w'=>e=.returned (.bool (holds 8 a b))/\w'=w:=by
 go_enter func141,ntmps141
 go_wp2_with(go_at_call 155;refine(xI a b a0 a1 b0 b1 _).mono ?_;rintro e w' ⟨rfl,rfl⟩)
 go_ret
 exact⟨rfl,rfl⟩
theorem zni(a b:Int)(a0:0<=a)(a1:a<=4294967295)(b0:0<=b)(b1:b<=4294967295)(w:World):
  Calls prog 141 #[.int .i64 9,.int .u32 a,.int .u32 b] w fun e w'=>e=.returned (.bool (holds 9 a b))/\w'=w:=by
 go_enter func141,ntmps141
 go_wp2
 go_ret
 exact⟨rfl,rfl⟩
theorem zla(a b:Int)(a0:0<=a)(a1:a<=4294967295)(b0:0<=b)(b1:b<=4294967295)(w:World):
  Calls prog 141 #[.int .i64 10,.int .u32 a,.int .u32 b] w fun e w'=>e=.returned (.bool (holds 10 a b))/\w'=w:=by
 go_enter func141,ntmps141
 go_wp2
 go_ret
 exact⟨rfl,rfl⟩
theorem zcY(op a b:Int)(w:World)(n5:(op==5)=false)(n6:(op==6)=false)(n7:(op==7)=false)(n8:(op==8)=false)(n9:(op==9)=false)(n10:(op==10)=false):
  Calls prog 141 #[.int .i64 op,.int .u32 a,.int .u32 b] w fun e w'=>e=.returned (.bool false)/\w'=w:=by
 go_enter func141,ntmps141
 go_wp2
 go_ret
 exact⟨rfl,rfl⟩
theorem holds_none(op a b:Int)(n5:¬op=5)(n6:¬op=6)(n7:¬op=7)(n8:¬op=8)(n9:¬op=9)(n10:¬op=10):holds op a b=false:=by
 unfold holds
 simp only[n5,n6,n7,n8,n9,n10,if_false]
theorem zgl(op:Int)(a b:Int)(a0:0<=a)(a1:a<=4294967295)(b0:0<=b)(b1:b<=4294967295)(w:World):
  Calls prog 141 #[.int .i64 op,.int .u32 a,.int .u32 b] w fun e w'=>e=.returned (.bool (holds op a b))/\w'=w:=by
 by_cases n5:op=5
 ·subst n5;exact zne a b a0 a1 b0 b1 w
 by_cases n6:op=6
 ·subst n6;exact znf a b a0 a1 b0 b1 w
 by_cases n7:op=7
 ·subst n7;exact zng a b a0 a1 b0 b1 w
 by_cases n8:op=8
 ·subst n8;exact znh a b a0 a1 b0 b1 w
 by_cases n9:op=9
 ·subst n9;exact zni a b a0 a1 b0 b1 w
 by_cases n10:op=10
 ·subst n10;exact zla a b a0 a1 b0 b1 w
 rw[holds_none op a b n5 n6 n7 n8 n9 n10]
 exact zcY op a b w (by simpa using n5) (by simpa using n6) (by simpa using n7) (by simpa using n8) (by simpa using n9) (by simpa using n10)
theorem zl(a:Int)(a0:0<=a)(a1:a<=4294967295)(w:World):
  Calls prog 55 #[.int .u32 a] w fun e w'=>e=.returned (.int .i64 (sg a))/\w'=w:=by
 by_cases h:2147483648<=a
 ·go_enter func55,ntmps55
  go_wp2
  go_ret
  exact⟨zv (by unfold sg;rw[if_neg (by omega)]),rfl⟩
 ·go_enter func55,ntmps55
  go_wp2
  go_ret
  exact⟨zv (by unfold sg;rw[if_pos (by omega)]),rfl⟩
theorem zS(n:Int)(w:World):
  Calls prog 27 #[.int .i64 n] w fun e w'=>e=.returned (.int .u32 (n%4294967296))/\w'=w:=by
 have hr:-4294967296<n.tmod 4294967296/\n.tmod 4294967296<4294967296:=⟨Int.lt_tmod_of_pos n (by decide),Int.tmod_lt_of_pos n (by decide)⟩
 have he:=zpr n
 by_cases h:n.tmod 4294967296<0
 ·rw[if_pos h]at he
  have H:Hid (n.tmod 4294967296+4294967296=n%4294967296):=he
  clear he
  go_enter func27,ntmps27
  go_wp2
  go_ret
  exact⟨zv H.out,rfl⟩
 ·rw[if_neg h]at he
  have H:Hid (n.tmod 4294967296=n%4294967296):=he
  clear he
  go_enter func27,ntmps27
  go_wp2
  go_ret
  exact⟨zv H.out,rfl⟩
theorem zaj(y:Bool)(w:World):
  Calls prog 59 #[.bool y] w fun e w'=>e=.returned (.int .u32 (if y=true then 1 else 0))/\w'=w:=by
 cases y
 all_goals
  go_enter func59,ntmps59
  go_wp2
  go_ret
  exact⟨rfl,rfl⟩
theorem qC(n:Nat)(hn:n<=32)(w:World):
  Calls prog 32 #[.int .i64 n] w fun e w'=>e=.returned (.int .i64 (two n))/\w'=w:=by
 go_enter func32,ntmps32
 go_wp2
 go_loop [3,4] (fun p i=>∃k:Nat,k<=n/\i=.int .i64 k/\p=.int .i64 (two k)) (fun _ i=>n-(intOf i).toNat)
 case atStart=>exact⟨0,Nat.zero_le _,rfl,rfl⟩
 case round=>
  obtain⟨k,hk,rfl,rfl⟩:=hrel
  have t0:=qU k
  have t1:=xZ k (by omega)
  have HS:Hid (two (k+1)=two k+two k):=ziO k
  by_cases hlt:k<n
  ·go_wp2
   go_round
   case rel=>exact⟨k+1,by omega,by go_num,by rw[HS.out]⟩
   case measure=>simp[intOf];omega
  ·go_wp2
   go_ret
   exact⟨zv (by rw[show k=n by omega]),rfl⟩
theorem zbM(a b:Int)(hb:0<b)(r:Int)(hr:r=a%b):(a-r).tdiv b=a/b:=by
 subst hr
 have h:=Int.mul_ediv_add_emod a b
 have e:a-a%b=b*(a/b):=by omega
 rw[e,Int.mul_tdiv_cancel_left _ (by omega)]
theorem ziQ(a b:Int)(hb:0<b)(h:a.tmod b<0):a.tmod b+b=a%b:=by
 rw[Int.tmod_eq_emod]at h⊢
 have h1:=Int.emod_nonneg a (b:=b) (by omega)
 have h2:=Int.emod_lt_of_pos a hb
 split at h
 ·omega
 ·rename_i g;rw[if_neg g];omega
theorem zcZ(a b:Int)(hb:0<b)(h:¬a.tmod b<0):a.tmod b=a%b:=by
 rw[Int.tmod_eq_emod]at h⊢
 have h1:=Int.emod_nonneg a (b:=b) (by omega)
 have h2:=Int.emod_lt_of_pos a hb
 split at h
 ·rename_i g;rw[if_pos g];omega
 ·omega
theorem kP(a b:Int)(a0:-9000000000000000000<=a)(a1:a<=9000000000000000000)(b0:0<b)(b1:b<=4294967296)(w:World):
  Calls prog 58 #[.int .i64 a,.int .i64 b] w fun e w'=>e=.returned (.int .i64 (a/b))/\w'=w:=by
 have h1:=Int.emod_nonneg a (b:=b) (by omega)
 have h2:=Int.emod_lt_of_pos a b0
 have hz:¬b=0:=by omega
 have l0:-4294967296<a.tmod b:=by have:=Int.lt_tmod_of_pos a b0;omega
 have l1:a.tmod b<4294967296:=by have:=Int.tmod_lt_of_pos a b0;omega
 by_cases h:a.tmod b<0
 ·have H:Hid (a.tmod b+b=a%b):=ziQ a b b0 h
  have HF:Hid ((a-(a.tmod b+b)).tdiv b=a/b):=zbM a b b0 _ H.out
  go_enter func58,ntmps58
  go_wp2
  go_ret
  exact⟨zv HF.out,rfl⟩
 ·have HF:Hid ((a-a.tmod b).tdiv b=a/b):=zbM a b b0 _ (zcZ a b b0 h)
  go_enter func58,ntmps58
  go_wp2
  go_ret
  exact⟨zv HF.out,rfl⟩
theorem half(x k:Nat):x/2^(k+1)=x/2^k/2:=by
 rw[Nat.pow_succ,Nat.div_div_eq_div_mul]
theorem ziR(op:Int)(x y k:Nat)(p q:Bool)(hp:decide (x/2^k%2=1)=p)(hq:decide (y/2^k%2=1)=q):
  ((natop op x y%2^(k+1):Nat):Int)=((natop op x y%2^k:Nat):Int)+(if bitop op p q=true then two k else 0):=by
 rw[zcW,hp,hq]
theorem ziS(op:Int)(a b:Int)(a0:0<=a)(a1:a<=4294967295)(b0:0<=b)(b1:b<=4294967295):
  ((natop op a.toNat b.toNat%2^32:Nat):Int)%4294967296=((natop op a.toNat b.toNat:Nat):Int):=by
 have:=zaH op a.toNat b.toNat 32 (by omega) (by omega)
 omega
theorem yP(op:Int)(hop:op=37\/op=36\/op=33)(a b:Int)(a0:0<=a)(a1:a<=4294967295)(b0:0<=b)(b1:b<=4294967295)(w:World):
  Calls prog 57 #[.int .i64 op,.int .u32 a,.int .u32 b] w fun e w'=>e=.returned (.int .u32 (natop op a.toNat b.toNat:Nat))/\w'=w:=by
 have HE:Hid (((natop op a.toNat b.toNat%2^32:Nat):Int)%4294967296=((natop op a.toNat b.toNat:Nat):Int)):=ziS op a b a0 a1 b0 b1
 have HA:Hid (a=((a.toNat/2^0:Nat):Int)):=by show a=_;simp;omega
 have HB:Hid (b=((b.toNat/2^0:Nat):Int)):=by show b=_;simp;omega
 have hA:a.toNat<4294967296:=by omega
 have hB:b.toNat<4294967296:=by omega
 have HN:∀k,Hid (natop op a.toNat b.toNat%2^k<4294967296):=fun k=>by
  have h1:=zaH op a.toNat b.toNat 32 (by omega) (by omega)
  have h2:natop op a.toNat b.toNat%2^k<=natop op a.toNat b.toNat:=Nat.mod_le _ _
  show _<_;omega
 go_enter func57,ntmps57
 go_wp2
 go_loop [7,8,9,10] (fun x y n i=>∃k:Nat,k<=32/\i=.int .i64 k/\x=.int .i64 ((a.toNat/2^k:Nat):Int)/\y=.int .i64 ((b.toNat/2^k:Nat):Int)/\n=.int .i64 ((natop op a.toNat b.toNat%2^k:Nat):Int)) (fun _ _ _ i=>32-(intOf i).toNat)
 case atStart=>exact⟨0,Nat.zero_le _,rfl,congrArg (Value.int .i64) HA.out,congrArg (Value.int .i64) HB.out,by rw[Nat.pow_zero,Nat.mod_one];rfl⟩
 case round=>
  obtain⟨k,hk,rfl,rfl,rfl,rfl⟩:=hrel
  by_cases hlt:k<32
  ·have HX:Hid (a.toNat/2^(k+1)=a.toNat/2^k/2):=half _ _
   have HY:Hid (b.toNat/2^(k+1)=b.toNat/2^k/2):=half _ _
   have HK:∀p q,Hid (decide (a.toNat/2^k%2=1)=p->decide (b.toNat/2^k%2=1)=q->((natop op a.toNat b.toNat%2^(k+1):Nat):Int)=((natop op a.toNat b.toNat%2^k:Nat):Int)+(if bitop op p q=true then two k else 0)):=fun p q=>ziR op a.toNat b.toNat k p q
   have hx:a.toNat/2^k<4294967296:=by have:=Nat.div_le_self a.toNat (2^k);omega
   have hy:b.toNat/2^k<4294967296:=by have:=Nat.div_le_self b.toNat (2^k);omega
   have hm:=(HN k).out
   have ht:=qU k
   have ht2:=xZ k hk
   clear HA HB HN HE
   generalize a.toNat/2^k=x at*
   generalize b.toNat/2^k=y at*
   generalize natop op a.toNat b.toNat%2^k=m at*
   by_cases hp:x%2=1
   ·have hp':((x:Int)%2==1)=true:=by rw[beq_iff_eq];omega
    by_cases hq:y%2=1
    ·have hq':((y:Int)%2==1)=true:=by rw[beq_iff_eq];omega
     have HF:=HK true true
     rcases hop with rfl|rfl|rfl
     all_goals
      go_wp2_with(go_at_call 32;refine(qC k hk _).mono ?_;rintro e w' ⟨rfl,rfl⟩)
      go_round
      case rel=>exact⟨k+1,by omega,by go_num,by rw[HX.out];go_num,by rw[HY.out];go_num,by rw[HF.out (by simp[hp]) (by simp[hq])];simp[bitop]⟩
      case measure=>simp[intOf];omega
    ·have hq':((y:Int)%2==1)=false:=by rw[beq_eq_false_iff_ne];omega
     have HF:=HK true false
     rcases hop with rfl|rfl|rfl
     all_goals
      go_wp2_with(go_at_call 32;refine(qC k hk _).mono ?_;rintro e w' ⟨rfl,rfl⟩)
      go_round
      case rel=>exact⟨k+1,by omega,by go_num,by rw[HX.out];go_num,by rw[HY.out];go_num,by rw[HF.out (by simp[hp]) (by simp[hq])];simp[bitop]⟩
      case measure=>simp[intOf];omega
   ·have hp':((x:Int)%2==1)=false:=by rw[beq_eq_false_iff_ne];omega
    by_cases hq:y%2=1
    ·have hq':((y:Int)%2==1)=true:=by rw[beq_iff_eq];omega
     have HF:=HK false true
     rcases hop with rfl|rfl|rfl
     all_goals
      go_wp2_with(go_at_call 32;refine(qC k hk _).mono ?_;rintro e w' ⟨rfl,rfl⟩)
      go_round
      case rel=>exact⟨k+1,by omega,by go_num,by rw[HX.out];go_num,by rw[HY.out];go_num,by rw[HF.out (by simp[hp]) (by simp[hq])];simp[bitop]⟩
      case measure=>simp[intOf];omega
    ·have hq':((y:Int)%2==1)=false:=by rw[beq_eq_false_iff_ne];omega
     have HF:=HK false false
     rcases hop with rfl|rfl|rfl
     all_goals
      go_wp2_with(go_at_call 32;refine(qC k hk _).mono ?_;rintro e w' ⟨rfl,rfl⟩)
      go_round
      case rel=>exact⟨k+1,by omega,by go_num,by rw[HX.out];go_num,by rw[HY.out];go_num,by rw[HF.out (by simp[hp]) (by simp[hq])];simp[bitop]⟩
      case measure=>simp[intOf];omega
  ·obtain rfl:k=32:=by omega
   clear HN HA HB
   generalize natop op a.toNat b.toNat%2^32=m at*
   go_wp2_with(go_at_call 27;refine(zS _ _).mono ?_;rintro e w' ⟨rfl,rfl⟩)
   go_ret
   exact⟨zv HE.out,rfl⟩
theorem zak(a b:Int)(a0:-2147483648<=a)(a1:a<=4294967295)(b0:0<=b)(b1:b<=4294967295)(w:World):
  Calls prog 60 #[.int .i64 a,.int .i64 b] w fun e w'=>e=.returned (.int .u32 (a*b/4294967296%4294967296))/\w'=w:=by
 have hl:=xu a (b%65536) 4294967295 65535 (by omega) (by omega) (by omega) (by omega)
 have hh:=xu a (b/65536) 4294967295 65535 (by omega) (by omega) (by omega) (by omega)
 have HU:Hid ((a*(b/65536)+a*(b%65536)/65536)/65536%4294967296=a*b/4294967296%4294967296):=by
  show _=_
  rw[upper_eq,show b/65536*65536+b%65536=b by omega]
 have hs:-300000000000000<=a*(b/65536)+a*(b%65536)/65536/\a*(b/65536)+a*(b%65536)/65536<=300000000000000:=by omega
 go_enter func60,ntmps60
 go_wp2_with(first|(go_at_call 58;refine(kP _ _ ?_ ?_ ?_ ?_ _).mono ?_;(iterate 4 omega);rintro e w' ⟨rfl,rfl⟩)|(go_at_call 27;refine(zS _ _).mono ?_;rintro e w' ⟨rfl,rfl⟩))
 go_ret
 exact⟨zv HU.out,rfl⟩
theorem ziT(w:World)(n:Nat)(m:Int)(hm:m=n)(hn:n<=32):
  Calls prog 32 #[.int .i64 m] w fun e w'=>e=.returned (.int .i64 (two n))/\w'=w:=by
 subst hm;exact qC n hn w
theorem zkw(a b:Int)(a0:0<=a)(a1:a<=4294967295)(b0:0<=b)(b1:b<=4294967295)(w:World):
  Calls prog 33 #[.int .i64 28,.int .u32 a,.int .u32 b] w fun e w'=>e=.returned (.int .u32 (alu 28 a b))/\w'=w:=by
 have ha:=zg a a0 a1
 have hb:=zg b b0 b1
 go_enter func33,ntmps33
 go_wp2_with(first|(go_at_call 55;refine(zl _ ?_ ?_ _).mono ?_;(iterate 2 omega);rintro e w' ⟨rfl,rfl⟩)|(go_at_call 27;refine(zS _ _).mono ?_;rintro e w' ⟨rfl,rfl⟩))
 go_ret
 exact⟨rfl,rfl⟩
theorem znj(a b:Int)(a0:0<=a)(a1:a<=4294967295)(b0:0<=b)(b1:b<=4294967295)(w:World):
  Calls prog 33 #[.int .i64 29,.int .u32 a,.int .u32 b] w fun e w'=>e=.returned (.int .u32 (alu 29 a b))/\w'=w:=by
 have ha:=zg a a0 a1
 have hb:=zg b b0 b1
 go_enter func33,ntmps33
 go_wp2_with(first|(go_at_call 55;refine(zl _ ?_ ?_ _).mono ?_;(iterate 2 omega);rintro e w' ⟨rfl,rfl⟩)|(go_at_call 27;refine(zS _ _).mono ?_;rintro e w' ⟨rfl,rfl⟩))
 go_ret
 exact⟨rfl,rfl⟩
theorem znk(a b:Int)(a0:0<=a)(a1:a<=4294967295)(b0:0<=b)(b1:b<=4294967295)(w:World):
  Calls prog 33 #[.int .i64 33,.int .u32 a,.int .u32 b] w fun e w'=>e=.returned (.int .u32 (alu 33 a b))/\w'=w:=by
 have ha:=zg a a0 a1
 have hb:=zg b b0 b1
 go_enter func33,ntmps33
 go_wp2_with(first|(go_at_call 55;refine(zl _ ?_ ?_ _).mono ?_;(iterate 2 omega);rintro e w' ⟨rfl,rfl⟩)|(go_at_call 57;refine(yP 33 (by decide) a b a0 a1 b0 b1 _).mono ?_;rintro e w' ⟨rfl,rfl⟩))
 go_ret
 exact⟨rfl,rfl⟩
theorem znl(a b:Int)(a0:0<=a)(a1:a<=4294967295)(b0:0<=b)(b1:b<=4294967295)(w:World):
  Calls prog 33 #[.int .i64 36,.int .u32 a,.int .u32 b] w fun e w'=>e=.returned (.int .u32 (alu 36 a b))/\w'=w:=by
 have ha:=zg a a0 a1
 have hb:=zg b b0 b1
 go_enter func33,ntmps33
 go_wp2_with(first|(go_at_call 55;refine(zl _ ?_ ?_ _).mono ?_;(iterate 2 omega);rintro e w' ⟨rfl,rfl⟩)|(go_at_call 57;refine(yP 36 (by decide) a b a0 a1 b0 b1 _).mono ?_;rintro e w' ⟨rfl,rfl⟩))
 go_ret
 exact⟨rfl,rfl⟩
theorem znm(a b:Int)(a0:0<=a)(a1:a<=4294967295)(b0:0<=b)(b1:b<=4294967295)(w:World):
  Calls prog 33 #[.int .i64 37,.int .u32 a,.int .u32 b] w fun e w'=>e=.returned (.int .u32 (alu 37 a b))/\w'=w:=by
 have ha:=zg a a0 a1
 have hb:=zg b b0 b1
 go_enter func33,ntmps33
 go_wp2_with(first|(go_at_call 55;refine(zl _ ?_ ?_ _).mono ?_;(iterate 2 omega);rintro e w' ⟨rfl,rfl⟩)|(go_at_call 57;refine(yP 37 (by decide) a b a0 a1 b0 b1 _).mono ?_;rintro e w' ⟨rfl,rfl⟩))
 go_ret
 exact⟨rfl,rfl⟩
theorem zdZ(p:Option Addr)(n c:Nat)(op a:Int)(hn:n<=140737488355328)(a0:0<=a)(a1:a<=4294967295)(h:¬(0<ldn op/\a%ldn op=0/\a+ldn op<=n))(w:World):
  Calls prog 24 #[.slice p n c,.int .i64 op,.int .u32 a] w fun e w'=>e=.returned (.tuple #[.int .u32 0,.bool false])/\w'=w:=by
 have hd:decide (0<ldn op/\a%ldn op=0/\a+ldn op<=n)=false:=decide_eq_false h
 have hm:=jm op
 obtain⟨m,hM⟩:∃m,m=ldn op:=⟨_,rfl⟩
 have C1:=zah op
 rw[<-hM]at hd hm C1
 have C2:=fun w=>xY p n c a m hn a0 a1 hm w
 rw[hd]at C2
 clear hM h hd hm
 go_enter func24,ntmps24
 go_wp2_with fail
 refine(C1 _).mono ?_
 rintro e w' ⟨rfl,rfl⟩
 go_wp2_with fail
 refine(C2 _).mono ?_
 rintro e w' ⟨rfl,rfl⟩
 go_wp2_with fail
 go_ret2
 exact⟨rfl,rfl⟩
def p256:Nat->Int
 |0=>1
 |1=>256
 |2=>65536
 |3=>16777216
 |_=>4294967296
theorem ke(f:Nat->Int)(j:Nat)(hj:j<=4)(hf:∀i,i<j->0<=f i/\f i<=255):0<=le f j/\le f j<=p256 j-1:=by
 rcases(by omega:j=0\/j=1\/j=2\/j=3\/j=4)with rfl|rfl|rfl|rfl|rfl
 ·exact⟨Int.le_refl 0,by show(0:Int)<=1-1;omega⟩
 ·have h0:=hf 0 (by omega)
  show 0<=f 0/\f 0<=256-1
  omega
 ·have h0:=hf 0 (by omega)
  have h1:=hf 1 (by omega)
  show 0<=f 0+f 1*256/\f 0+f 1*256<=65536-1
  omega
 ·have h0:=hf 0 (by omega)
  have h1:=hf 1 (by omega)
  have h2:=hf 2 (by omega)
  show 0<=f 0+f 1*256+f 2*65536/\f 0+f 1*256+f 2*65536<=16777216-1
  omega
 ·have h0:=hf 0 (by omega)
  have h1:=hf 1 (by omega)
  have h2:=hf 2 (by omega)
  have h3:=hf 3 (by omega)
  show 0<=f 0+f 1*256+f 2*65536+f 3*16777216/\f 0+f 1*256+f 2*65536+f 3*16777216<=4294967296-1
  omega
theorem ziU(f:Nat->Int):le f 1=le f 0+f 0:=by show f 0=0+f 0;omega
theorem ziV(f:Nat->Int):le f 2=le f 1+f 1*256:=rfl
theorem ziW(f:Nat->Int):le f 3=le f 2+f 2*65536:=rfl
theorem ziX(f:Nat->Int):le f 4=le f 3+f 3*16777216:=rfl
theorem zgm(g o n c:Nat)(op:Int)(a m:Nat)(f:Nat->Int)(hM:ldn op=(m:Int))(hn:n<=140737488355328)(a1:a<=4294967295)(h0:0<m)(h1:a%m=0)(h2:a+m<=n)(hnc:n<=c)(w:World)
  (hf:∀i,i<m->0<=f i/\f i<=255) (hc:Lies w g (o+a) m f):
  Calls prog 24 #[.slice (some ⟨g,o,none⟩) n c,.int .i64 op,.int .u32 a] w fun e w'=>e=.returned (.tuple #[.int .u32 (ldv op f),.bool true])/\w'=w:=by
 have hm':=jm op
 have hm:m=1\/m=2\/m=4:=by omega
 have C1:=zah op
 rw[hM]at C1 hm'
 have C2:=fun w=>xY (some ⟨g,o,none⟩) n c a m hn (by omega) (by omega) hm' w
 have hd:decide (0<(m:Int)/\(a:Int)%m=0/\(a:Int)+m<=n)=true:=decide_eq_true ⟨by omega,by omega,by omega⟩
 rw[hd]at C2
 clear hd hm'
 go_enter func24,ntmps24
 go_wp2_with fail
 refine(C1 _).mono ?_
 rintro e w' ⟨rfl,rfl⟩
 go_wp2_with fail
 refine(C2 _).mono ?_
 rintro e w' ⟨rfl,rfl⟩
 clear C1 C2
 go_wp2_with fail
 go_loop [9,10,11] (fun t q k=>∃j:Nat,j<=m/\k=.int .i64 j/\t=.int .i64 (le f j)/\q=.int .i64 (p256 j)) (fun _ _ k=>m-(intOf k).toNat)
 case atStart=>exact⟨0,by omega,rfl,rfl,rfl⟩
 case round=>
  obtain⟨j,hj,rfl,rfl,rfl⟩:=hrel
  obtain⟨T,hT⟩:∃T,T=le f j:=⟨_,rfl⟩
  have HT:Hid (T=le f j):=hT
  rw[<-hT]
  clear hT
  by_cases hlt:j<m
  ·rcases(by omega:j=0\/j=1\/j=2\/j=3)with rfl|rfl|rfl|rfl
   ·obtain⟨z,hz⟩:∃z,z=f 0:=⟨_,rfl⟩
    have c0:w'.cell? ⟨g,o+a,none⟩=some (.int .u8 (f 0)):=hc 0 (by omega)
    have b0:=hf 0 (by omega)
    rw[<-hz]at c0 b0
    have hA:Hid (z=f 0):=hz
    have tb:0<=T/\T<=0:=by rw[HT.out];exact ke f 0 (by omega) (fun i hi=>hf i (by omega))
    have HF:Hid (∀i,i<m->0<=f i/\f i<=255):=hf
    rw[show p256 0=1 from rfl]
    clear hc hf hz
    go_wp2
    go_round
    case rel=>exact⟨1,by omega,by go_num,int_eq (by rw[ziU,<-HT.out,<-hA.out]),rfl⟩
    case measure=>simp[intOf];omega
   ·obtain⟨z,hz⟩:∃z,z=f 1:=⟨_,rfl⟩
    have c0:w'.cell? ⟨g,o+(a+1),none⟩=some (.int .u8 (f 1)):=by have h:=hc 1 (by omega);rw[Nat.add_assoc]at h;exact h
    have b0:=hf 1 (by omega)
    rw[<-hz]at c0 b0
    have hA:Hid (z=f 1):=hz
    have tb:0<=T/\T<=255:=by rw[HT.out];exact ke f 1 (by omega) (fun i hi=>hf i (by omega))
    have HF:Hid (∀i,i<m->0<=f i/\f i<=255):=hf
    rw[show p256 1=256 from rfl]
    clear hc hf hz
    go_wp2
    go_round
    case rel=>exact⟨2,by omega,by go_num,int_eq (by rw[ziV,<-HT.out,<-hA.out]),rfl⟩
    case measure=>simp[intOf];omega
   ·obtain⟨z,hz⟩:∃z,z=f 2:=⟨_,rfl⟩
    have c0:w'.cell? ⟨g,o+(a+2),none⟩=some (.int .u8 (f 2)):=by have h:=hc 2 (by omega);rw[Nat.add_assoc]at h;exact h
    have b0:=hf 2 (by omega)
    rw[<-hz]at c0 b0
    have hA:Hid (z=f 2):=hz
    have tb:0<=T/\T<=65535:=by rw[HT.out];exact ke f 2 (by omega) (fun i hi=>hf i (by omega))
    have HF:Hid (∀i,i<m->0<=f i/\f i<=255):=hf
    rw[show p256 2=65536 from rfl]
    clear hc hf hz
    go_wp2
    go_round
    case rel=>exact⟨3,by omega,by go_num,int_eq (by rw[ziW,<-HT.out,<-hA.out]),rfl⟩
    case measure=>simp[intOf];omega
   ·obtain⟨z,hz⟩:∃z,z=f 3:=⟨_,rfl⟩
    have c0:w'.cell? ⟨g,o+(a+3),none⟩=some (.int .u8 (f 3)):=by have h:=hc 3 (by omega);rw[Nat.add_assoc]at h;exact h
    have b0:=hf 3 (by omega)
    rw[<-hz]at c0 b0
    have hA:Hid (z=f 3):=hz
    have tb:0<=T/\T<=16777215:=by rw[HT.out];exact ke f 3 (by omega) (fun i hi=>hf i (by omega))
    have HF:Hid (∀i,i<m->0<=f i/\f i<=255):=hf
    rw[show p256 3=16777216 from rfl]
    clear hc hf hz
    go_wp2
    go_round
    case rel=>exact⟨4,by omega,by go_num,int_eq (by rw[ziX,<-HT.out,<-hA.out]),rfl⟩
    case measure=>simp[intOf];omega
  ·obtain rfl:j=m:=by omega
   have tb:=ke f j (by omega) hf
   rw[<-HT.out]at tb
   by_cases e1:op=11
   ·obtain rfl:j=1:=by subst e1;simp[ldn]at hM;omega
    have hl:T=f 0:=HT.out
    rw[show p256 1=256 from rfl]at tb⊢
    have HV:Hid (ldv op f=if T<128 then T else T+4294967040):=by show ldv op f=_;rw[hl,ldv,if_pos e1]
    clear hl hf HT hc
    by_cases hs:T<128
    ·rw[if_pos hs]at HV
     have hO:T%4294967296=T:=by omega
     have C:=zS T w'
     rw[hO]at C
     clear hO
     have q:decide (128<=T)=false:=decide_eq_false (by omega)
     go_wp2_with fail
     refine C.mono ?_
     rintro e w' ⟨rfl,rfl⟩
     go_wp2_with fail
     go_ret2
     exact⟨xG HV.out.symm true,rfl⟩
    ·rw[if_neg hs]at HV
     have hO:(T-256)%4294967296=T+4294967040:=by omega
     have C:=zS (T-256) w'
     rw[hO]at C
     clear hO
     have q:decide (128<=T)=true:=decide_eq_true (by omega)
     go_wp2_with fail
     refine C.mono ?_
     rintro e w' ⟨rfl,rfl⟩
     go_wp2_with fail
     go_ret2
     exact⟨xG HV.out.symm true,rfl⟩
   ·by_cases e2:op=12
    ·obtain rfl:j=2:=by subst e2;simp[ldn]at hM;omega
     have hl:T=le f 2:=HT.out
     rw[show p256 2=65536 from rfl]at tb⊢
     have HV:Hid (ldv op f=if T<32768 then T else T+4294901760):=by show ldv op f=_;rw[hl,ldv,if_neg e1,if_pos e2]
     clear hl hf HT hc
     by_cases hs:T<32768
     ·rw[if_pos hs]at HV
      have hO:T%4294967296=T:=by omega
      have C:=zS T w'
      rw[hO]at C
      clear hO
      have q:decide (32768<=T)=false:=decide_eq_false (by omega)
      go_wp2_with fail
      refine C.mono ?_
      rintro e w' ⟨rfl,rfl⟩
      go_wp2_with fail
      go_ret2
      exact⟨xG HV.out.symm true,rfl⟩
     ·rw[if_neg hs]at HV
      have hO:(T-65536)%4294967296=T+4294901760:=by omega
      have C:=zS (T-65536) w'
      rw[hO]at C
      clear hO
      have q:decide (32768<=T)=true:=decide_eq_true (by omega)
      go_wp2_with fail
      refine C.mono ?_
      rintro e w' ⟨rfl,rfl⟩
      go_wp2_with fail
      go_ret2
      exact⟨xG HV.out.symm true,rfl⟩
    ·have HV:Hid (ldv op f=T):=by
      show ldv op f=T
      rw[HT.out,ldv,if_neg e1,if_neg e2,hM];rfl
     have tb':T<=4294967295:=by
      rcases hm with h|h|h
      all_goals(subst h;have t2:=tb.2;simp only[p256]at t2;omega)
     have hO:T%4294967296=T:=by omega
     have C:=zS T w'
     rw[hO]at C
     clear hO
     have q1:(op==11)=false:=beq_eq_false_iff_ne.2 e1
     have q2:(op==12)=false:=beq_eq_false_iff_ne.2 e2
     clear HT hf hM hc
     go_wp2_with fail
     refine C.mono ?_
     rintro e w' ⟨rfl,rfl⟩
     go_wp2_with fail
     go_ret2
     exact⟨xG HV.out.symm true,rfl⟩
structure In where
 op:Int
 rd:Nat
 s1:Nat
 s2:Nat
 im:Int
structure Cm where
 pc:Int
 next:Int
 st:Int
 ca:Int
 rd:Nat
 val:Int
 pl:Int
 many:Int
 data:Int
 out:Bool
 told:Int
def opn(op:Int):Int:=if op=19 then 28 else if op=20 then 31 else if op=21 then 32 else if op=22 then 33 else if op=23 then 36 else if op=24 then 37 else if op=25 then 30 else if op=26 then 34 else 35
def zin:In:=⟨0,0,0,0,0⟩
def zcm:Cm:=⟨0,0,0,0,0,0,0,0,0,false,0⟩
def qe(pc k:Int):Cm:=⟨pc,pc,2,k,0,0,0,0,0,false,0⟩
def onC(pc:Int)(rd:Nat)(v:Int):Cm:=⟨pc,(pc+4)%4294967296,0,0,rd,if rd=0 then 0 else v,0,0,0,false,0⟩
def sts(i:In):Bool:=decide (16<=i.op/\i.op<=18)
def trn(i:In):Bool:=decide (4<=i.op/\i.op<=10)
def gvs(i:In):Nat:=if i.op=46 then 0 else i.rd
def ra(i:In):Nat:=if i.op=47 then 17 else i.s1
def rb(i:In):Nat:=if i.op=47 then 10 else i.s2
def place(i:In)(a:Int):Int:=(a+i.im)%4294967296
def fits(n:Nat)(x many:Int):Bool:=decide (0<=x/\x%many=0/\x+many<=n)
def qa(n:Nat)(f:Nat->Int)(i:In)(pc a:Int):Cm:=
 if fits n (place i a) (ldn i.op)then onC pc i.rd (ldv i.op (fun k=>f ((place i a).toNat+k)))else qe pc 3
def zbN(pc nx:Int)(rd:Nat)(v:Int):Cm:=⟨pc,nx,0,0,rd,if rd=0 then 0 else v,0,0,0,false,0⟩
def nxW(i:In)(pc a b:Int):Int:=
 if i.op=3 then(pc+i.im%4294967296)%4294967296
 else if i.op=4 then(a+i.im%4294967296)%4294967296-(a+i.im%4294967296)%4294967296%2
 else if holds i.op a b=true then(pc+i.im%4294967296)%4294967296
 else(pc+4)%4294967296
def rkW(i:In)(pc a b:Int):Int:=
 if i.op=1 then i.im%4294967296
 else if i.op=2 then(pc+i.im%4294967296)%4294967296
 else if i.op=3\/i.op=4 then(pc+4)%4294967296
 else if 19<=i.op/\i.op<=27 then alu (opn i.op) a (i.im%4294967296)
 else alu i.op a b
def doW(i:In)(pc a b:Int)(n:Nat):Cm:=
 if sts i=true then
  (if fits n (place i a) (stn i.op)=true then⟨pc,(pc+4)%4294967296,0,0,0,0,place i a,stn i.op,b%p256 (stn i.op).toNat,false,0⟩else qe pc 4)
 else if i.op=46 then onC pc 0 0
 else if i.op=47 then(if a=0 then⟨pc,pc,1,0,0,0,0,0,0,false,0⟩else if a=1 then⟨pc,(pc+4)%4294967296,0,0,0,0,0,0,0,true,b⟩else qe pc 5)
 else if i.op=48 then qe pc 6
 else zbN pc (nxW i pc a b) i.rd (rkW i pc a b)
def allW(n:Nat)(f:Nat->Int)(i:In)(pc a b:Int):Cm:=if ldn i.op≠0 then qa n f i pc a else doW i pc a b n
end Go.Proofs.YtpiohehijkpghabGreatDoor
