/- What kinds answers: how each instruction is told. -/
import Derived.Deep.QuietTactic
import Derived.BigQuiet
import Derived.Lib.SliceRun
import Derived.Lib.OwnBridge
import Derived.Shelf.Bytes.SlEqualAll
import Derived.Deep.WholeRow
import Derived.Test.YtpiohehijkpghabGreatDoorS02
import Derived.Test.YtpiohehijkpghabGreatDoorS01
set_option maxRecDepth 100000
set_option maxHeartbeats 4000000
set_option linter.unusedVariables false
open Go.Proofs.Tryz
namespace Go.Proofs.YtpiohehijkpghabGreatDoor
open Go.RowKit
open Hy
theorem kS(m:Int)(m0:0<=m)(m1:m<=32)(w:World):
  Calls prog 32 #[.int .i64 m] w fun e w'=>e=.returned (.int .i64 (two m.toNat))/\w'=w:=
 ziT w m.toNat m (by omega) (by omega)
theorem zal(w:World):Calls prog 59 #[.bool true] w fun e w'=>e=.returned (.int .u32 1)/\w'=w:=zaj true w
theorem zbO(w:World):Calls prog 59 #[.bool false] w fun e w'=>e=.returned (.int .u32 0)/\w'=w:=zaj false w
theorem ziY(a b:Int)(a0:0<=a)(b0:0<=b):a%two (32-b%32).toNat*two (b%32).toNat=alu 30 a b:=by
 have e:(32-b%32).toNat=32-(b%32).toNat:=by omega
 rw[e,znd a _ (by omega)];rfl
theorem znn(a b:Int)(a0:0<=a)(a1:a<=4294967295)(b0:0<=b)(b1:b<=4294967295)(w:World):
  Calls prog 33 #[.int .i64 30,.int .u32 a,.int .u32 b] w fun e w'=>e=.returned (.int .u32 (alu 30 a b))/\∃n,w'=w.drewN n:=by
 have ha:=zg a a0 a1
 have hb:=zg b b0 b1
 have s0:0<=b%32:=by omega
 have s1:b%32<=31:=by omega
 have t0:=qU (b%32).toNat
 have t1:=xZ (b%32).toNat (by omega)
 have tz:¬two (b%32).toNat=0:=by omega
 have u0:=qU (32-b%32).toNat
 have u1:=xZ (32-b%32).toNat (by omega)
 have uz:¬two (32-b%32).toNat=0:=by omega
 have HS:Hid (a%two (32-b%32).toNat*two (b%32).toNat=alu 30 a b):=ziY a b a0 b0
 have hr:=yN 30 a b a0 a1 b0 b1
 have hm:0<=a%two (32-b%32).toNat*two (b%32).toNat/\a%two (32-b%32).toNat*two (b%32).toNat<=4294967295:=by rw[HS.out];exact hr
 go_enter func33,ntmps33
 go_wp2_with(go_at_call 55;refine(zl _ ?_ ?_ _).mono ?_;(iterate 2 omega);rintro e w' ⟨rfl,rfl⟩)
 go_quiet((first|(go_at_call 32;refine Calls.quiet_of_same (kS _ ?_ ?_ _);(iterate 2 omega))|(go_at_call 27;exact Calls.quiet_of_same (zS _ _))))
 go_wp2
 go_ret
 exact⟨zv (by rw[HS.out];omega),_,rfl⟩
theorem zno(a b:Int)(a0:0<=a)(a1:a<=4294967295)(b0:0<=b)(b1:b<=4294967295)(w:World):
  Calls prog 33 #[.int .i64 34,.int .u32 a,.int .u32 b] w fun e w'=>e=.returned (.int .u32 (alu 34 a b))/\w'=w:=by
 have ha:=zg a a0 a1
 have hb:=zg b b0 b1
 have s0:0<=b%32:=by omega
 have s1:b%32<=31:=by omega
 have t0:=qU (b%32).toNat
 have t1:=xZ (b%32).toNat (by omega)
 have tz:¬two (b%32).toNat=0:=by omega
 have hd:=zdW a (two (b%32).toNat) a0 a1 (by omega)
 go_enter func33,ntmps33
 go_wp2_with(first|(go_at_call 55;refine(zl _ ?_ ?_ _).mono ?_;(iterate 2 omega);rintro e w' ⟨rfl,rfl⟩)|(go_at_call 27;refine(zS _ _).mono ?_;rintro e w' ⟨rfl,rfl⟩)|(go_at_call 32;refine(kS _ ?_ ?_ _).mono ?_;(iterate 2 omega);rintro e w' ⟨rfl,rfl⟩))
 go_ret
 exact⟨zv (by show a/two (b%32).toNat%4294967296=a/two (b%32).toNat;unfold Wd at hd;omega),rfl⟩
theorem znp(a b:Int)(a0:0<=a)(a1:a<=4294967295)(b0:0<=b)(b1:b<=4294967295)(w:World):
  Calls prog 33 #[.int .i64 35,.int .u32 a,.int .u32 b] w fun e w'=>e=.returned (.int .u32 (alu 35 a b))/\w'=w:=by
 have ha:=zg a a0 a1
 have hb:=zg b b0 b1
 have s0:0<=b%32:=by omega
 have s1:b%32<=31:=by omega
 have t0:=qU (b%32).toNat
 have t1:=xZ (b%32).toNat (by omega)
 have tz:¬two (b%32).toNat=0:=by omega
 go_enter func33,ntmps33
 go_wp2_with(first|(go_at_call 55;refine(zl _ ?_ ?_ _).mono ?_;(iterate 2 omega);rintro e w' ⟨rfl,rfl⟩)|(go_at_call 27;refine(zS _ _).mono ?_;rintro e w' ⟨rfl,rfl⟩)|(go_at_call 32;refine(kS _ ?_ ?_ _).mono ?_;(iterate 2 omega);rintro e w' ⟨rfl,rfl⟩)|(go_at_call 58;refine(kP _ _ ?_ ?_ ?_ ?_ _).mono ?_;(iterate 4 omega);rintro e w' ⟨rfl,rfl⟩))
 go_ret
 exact⟨rfl,rfl⟩
theorem znq(a b:Int)(a0:0<=a)(a1:a<=4294967295)(b0:0<=b)(b1:b<=4294967295)(w:World):
  Calls prog 33 #[.int .i64 38,.int .u32 a,.int .u32 b] w fun e w'=>e=.returned (.int .u32 (alu 38 a b))/\w'=w:=by
 have ha:=zg a a0 a1
 have hb:=zg b b0 b1
 have hp:=xu (sg a) (sg b) 2147483648 2147483648 (by omega) (by omega) (by omega) (by omega)
 go_enter func33,ntmps33
 go_wp2_with(first|(go_at_call 55;refine(zl _ ?_ ?_ _).mono ?_;(iterate 2 omega);rintro e w' ⟨rfl,rfl⟩)|(go_at_call 27;refine(zS _ _).mono ?_;rintro e w' ⟨rfl,rfl⟩))
 go_ret
 exact⟨zv (zk9 a b a0 a1 b0 b1),rfl⟩
theorem znr(a b:Int)(a0:0<=a)(a1:a<=4294967295)(b0:0<=b)(b1:b<=4294967295)(w:World):
  Calls prog 33 #[.int .i64 39,.int .u32 a,.int .u32 b] w fun e w'=>e=.returned (.int .u32 (alu 39 a b))/\w'=w:=by
 have ha:=zg a a0 a1
 have hb:=zg b b0 b1
 have hp:=xu (sg a) (sg b) 2147483648 2147483648 (by omega) (by omega) (by omega) (by omega)
 go_enter func33,ntmps33
 go_wp2_with(first|(go_at_call 55;refine(zl _ ?_ ?_ _).mono ?_;(iterate 2 omega);rintro e w' ⟨rfl,rfl⟩)|(go_at_call 27;refine(zS _ _).mono ?_;rintro e w' ⟨rfl,rfl⟩)|(go_at_call 58;refine(kP _ _ ?_ ?_ ?_ ?_ _).mono ?_;(iterate 4 omega);rintro e w' ⟨rfl,rfl⟩))
 go_ret
 exact⟨rfl,rfl⟩
theorem zns(a b:Int)(a0:0<=a)(a1:a<=4294967295)(b0:0<=b)(b1:b<=4294967295)(w:World):
  Calls prog 33 #[.int .i64 40,.int .u32 a,.int .u32 b] w fun e w'=>e=.returned (.int .u32 (alu 40 a b))/\w'=w:=by
 have ha:=zg a a0 a1
 have hb:=zg b b0 b1
 go_enter func33,ntmps33
 go_wp2_with(first|(go_at_call 55;refine(zl _ ?_ ?_ _).mono ?_;(iterate 2 omega);rintro e w' ⟨rfl,rfl⟩)|(go_at_call 60;refine(zak _ _ ?_ ?_ ?_ ?_ _).mono ?_;(iterate 4 omega);rintro e w' ⟨rfl,rfl⟩))
 go_ret
 exact⟨rfl,rfl⟩
theorem znt(a b:Int)(a0:0<=a)(a1:a<=4294967295)(b0:0<=b)(b1:b<=4294967295)(w:World):
  Calls prog 33 #[.int .i64 41,.int .u32 a,.int .u32 b] w fun e w'=>e=.returned (.int .u32 (alu 41 a b))/\w'=w:=by
 have ha:=zg a a0 a1
 have hb:=zg b b0 b1
 go_enter func33,ntmps33
 go_wp2_with(first|(go_at_call 55;refine(zl _ ?_ ?_ _).mono ?_;(iterate 2 omega);rintro e w' ⟨rfl,rfl⟩)|(go_at_call 60;refine(zak _ _ ?_ ?_ ?_ ?_ _).mono ?_;(iterate 4 omega);rintro e w' ⟨rfl,rfl⟩))
 go_ret
 exact⟨rfl,rfl⟩
theorem znu(a b:Int)(a0:0<=a)(a1:a<=4294967295)(b0:0<=b)(b1:b<=4294967295)(w:World):
  Calls prog 33 #[.int .i64 31,.int .u32 a,.int .u32 b] w fun e w'=>e=.returned (.int .u32 (alu 31 a b))/\w'=w:=by
 have ha:=zg a a0 a1
 have hb:=zg b b0 b1
 by_cases h:sg a<sg b
 ·go_enter func33,ntmps33
  go_wp2_with(first|(go_at_call 55;refine(zl _ ?_ ?_ _).mono ?_;(iterate 2 omega);rintro e w' ⟨rfl,rfl⟩)|(go_at_call 59;refine(zal _).mono ?_;rintro e w' ⟨rfl,rfl⟩))
  go_ret
  exact⟨zv (by simp[alu,h]),rfl⟩
 ·have hd:decide (sg a<sg b)=false:=decide_eq_false h
  go_enter func33,ntmps33
  go_wp2_with(first|(go_at_call 55;refine(zl _ ?_ ?_ _).mono ?_;(iterate 2 omega);rintro e w' ⟨rfl,rfl⟩)|(go_at_call 59;refine(zbO _).mono ?_;rintro e w' ⟨rfl,rfl⟩))
  go_ret
  exact⟨zv (by simp[alu,h]),rfl⟩
theorem znv(a b:Int)(a0:0<=a)(a1:a<=4294967295)(b0:0<=b)(b1:b<=4294967295)(w:World):
  Calls prog 33 #[.int .i64 32,.int .u32 a,.int .u32 b] w fun e w'=>e=.returned (.int .u32 (alu 32 a b))/\w'=w:=by
 have ha:=zg a a0 a1
 have hb:=zg b b0 b1
 by_cases h:a<b
 ·go_enter func33,ntmps33
  go_wp2_with(first|(go_at_call 55;refine(zl _ ?_ ?_ _).mono ?_;(iterate 2 omega);rintro e w' ⟨rfl,rfl⟩)|(go_at_call 59;refine(zal _).mono ?_;rintro e w' ⟨rfl,rfl⟩))
  go_ret
  exact⟨zv (by simp[alu,h]),rfl⟩
 ·have hd:decide (a<b)=false:=decide_eq_false h
  go_enter func33,ntmps33
  go_wp2_with(first|(go_at_call 55;refine(zl _ ?_ ?_ _).mono ?_;(iterate 2 omega);rintro e w' ⟨rfl,rfl⟩)|(go_at_call 59;refine(zbO _).mono ?_;rintro e w' ⟨rfl,rfl⟩))
  go_ret
  exact⟨zv (by simp[alu,h]),rfl⟩
theorem znw(a b:Int)(a0:0<=a)(a1:a<=4294967295)(b0:0<=b)(b1:b<=4294967295)(w:World):
  Calls prog 33 #[.int .i64 42,.int .u32 a,.int .u32 b] w fun e w'=>e=.returned (.int .u32 (alu 42 a b))/\w'=w:=by
 have ha:=zg a a0 a1
 have hb:=zg b b0 b1
 by_cases h:b=0
 ·subst h
  go_enter func33,ntmps33
  go_wp2_with(first|(go_at_call 55;refine(zl _ ?_ ?_ _).mono ?_;(iterate 2 omega);rintro e w' ⟨rfl,rfl⟩)|(go_at_call 27;refine(zS _ _).mono ?_;rintro e w' ⟨rfl,rfl⟩))
  go_ret
  exact⟨rfl,rfl⟩
 ·have h':(b==0)=false:=by simpa using h
  have hs:¬sg b=0:=fun g=>h ((zaG b b0 b1).1 g)
  have hd:=kO (sg a) (sg b) 2147483648 (by omega) (by omega)
  go_enter func33,ntmps33
  go_wp2_with(first|(go_at_call 55;refine(zl _ ?_ ?_ _).mono ?_;(iterate 2 omega);rintro e w' ⟨rfl,rfl⟩)|(go_at_call 27;refine(zS _ _).mono ?_;rintro e w' ⟨rfl,rfl⟩))
  go_ret
  exact⟨zv (by simp[alu,h]),rfl⟩
theorem znx(a b:Int)(a0:0<=a)(a1:a<=4294967295)(b0:0<=b)(b1:b<=4294967295)(w:World):
  Calls prog 33 #[.int .i64 43,.int .u32 a,.int .u32 b] w fun e w'=>e=.returned (.int .u32 (alu 43 a b))/\w'=w:=by
 have ha:=zg a a0 a1
 have hb:=zg b b0 b1
 by_cases h:b=0
 ·subst h
  go_enter func33,ntmps33
  go_wp2_with(first|(go_at_call 55;refine(zl _ ?_ ?_ _).mono ?_;(iterate 2 omega);rintro e w' ⟨rfl,rfl⟩)|(go_at_call 27;refine(zS _ _).mono ?_;rintro e w' ⟨rfl,rfl⟩))
  go_ret
  exact⟨rfl,rfl⟩
 ·have h':(b==0)=false:=by simpa using h
  have hd:=zdW a b a0 a1 b0
  go_enter func33,ntmps33
  go_wp2_with(first|(go_at_call 55;refine(zl _ ?_ ?_ _).mono ?_;(iterate 2 omega);rintro e w' ⟨rfl,rfl⟩)|(go_at_call 27;refine(zS _ _).mono ?_;rintro e w' ⟨rfl,rfl⟩))
  go_ret
  exact⟨zv (by unfold Wd at hd;simp only[alu];simp[h];omega),rfl⟩
theorem zny(a b:Int)(a0:0<=a)(a1:a<=4294967295)(b0:0<=b)(b1:b<=4294967295)(w:World):
  Calls prog 33 #[.int .i64 44,.int .u32 a,.int .u32 b] w fun e w'=>e=.returned (.int .u32 (alu 44 a b))/\w'=w:=by
 have ha:=zg a a0 a1
 have hb:=zg b b0 b1
 by_cases h:b=0
 ·subst h
  go_enter func33,ntmps33
  go_wp2_with(first|(go_at_call 55;refine(zl _ ?_ ?_ _).mono ?_;(iterate 2 omega);rintro e w' ⟨rfl,rfl⟩)|(go_at_call 27;refine(zS _ _).mono ?_;rintro e w' ⟨rfl,rfl⟩))
  go_ret
  exact⟨rfl,rfl⟩
 ·have h':(b==0)=false:=by simpa using h
  have hs:¬sg b=0:=fun g=>h ((zaG b b0 b1).1 g)
  have hd:=kO (sg a) (sg b) 2147483648 (by omega) (by omega)
  have ht:=zai (sg a) (sg b) 2147483648 (by omega) (by omega)
  have hp:-9000000000<=(sg a).tdiv (sg b)*sg b/\(sg a).tdiv (sg b)*sg b<=9000000000:=by have:=zkv (sg a) (sg b);omega
  go_enter func33,ntmps33
  go_wp2_with(first|(go_at_call 55;refine(zl _ ?_ ?_ _).mono ?_;(iterate 2 omega);rintro e w' ⟨rfl,rfl⟩)|(go_at_call 27;refine(zS _ _).mono ?_;rintro e w' ⟨rfl,rfl⟩))
  go_ret
  exact⟨zv (by rw[zkv];simp[alu,h]),rfl⟩
theorem znz(a b:Int)(a0:0<=a)(a1:a<=4294967295)(b0:0<=b)(b1:b<=4294967295)(w:World):
  Calls prog 33 #[.int .i64 45,.int .u32 a,.int .u32 b] w fun e w'=>e=.returned (.int .u32 (alu 45 a b))/\w'=w:=by
 have ha:=zg a a0 a1
 have hb:=zg b b0 b1
 by_cases h:b=0
 ·subst h
  go_enter func33,ntmps33
  go_wp2_with(first|(go_at_call 55;refine(zl _ ?_ ?_ _).mono ?_;(iterate 2 omega);rintro e w' ⟨rfl,rfl⟩)|(go_at_call 27;refine(zS _ _).mono ?_;rintro e w' ⟨rfl,rfl⟩))
  go_ret
  exact⟨rfl,rfl⟩
 ·have h':(b==0)=false:=by simpa using h
  have hd:=zgi a b b1 (by omega)
  go_enter func33,ntmps33
  go_wp2_with(first|(go_at_call 55;refine(zl _ ?_ ?_ _).mono ?_;(iterate 2 omega);rintro e w' ⟨rfl,rfl⟩)|(go_at_call 27;refine(zS _ _).mono ?_;rintro e w' ⟨rfl,rfl⟩))
  go_ret
  exact⟨zv (by unfold Wd at hd;simp only[alu];simp[h];omega),rfl⟩
theorem zeX(op a b:Int)(a0:0<=a)(a1:a<=4294967295)(b0:0<=b)(b1:b<=4294967295)(w:World)(n28:(op==28)=false)(n29:(op==29)=false)(n30:(op==30)=false)(n31:(op==31)=false)(n32:(op==32)=false)(n33:(op==33)=false)(n34:(op==34)=false)(n35:(op==35)=false)(n36:(op==36)=false)(n37:(op==37)=false)(n38:(op==38)=false)(n39:(op==39)=false)(n40:(op==40)=false)(n41:(op==41)=false)(n42:(op==42)=false)(n43:(op==43)=false)(n44:(op==44)=false)(n45:(op==45)=false):
  Calls prog 33 #[.int .i64 op,.int .u32 a,.int .u32 b] w fun e w'=>e=.returned (.int .u32 0)/\w'=w:=by
 go_enter func33,ntmps33
 go_wp2_with(go_at_call 55;refine(zl _ ?_ ?_ _).mono ?_;(iterate 2 omega);rintro e w' ⟨rfl,rfl⟩)
 go_ret
 exact⟨rfl,rfl⟩
theorem still{P:Program}{f:FuncId}{xs:Array Value}{w:World}{v:Value}(h:Calls P f xs w fun e w'=>e=.returned v/\w'=w):
  Calls P f xs w fun e w'=>e=.returned v/\∃n,w'=w.drewN n:=
 h.mono fun _ _ ⟨he,hw⟩=>⟨he,0,hw⟩
theorem zd0(op:Int)(a b:Int)(a0:0<=a)(a1:a<=4294967295)(b0:0<=b)(b1:b<=4294967295)(w:World):
  Calls prog 33 #[.int .i64 op,.int .u32 a,.int .u32 b] w fun e w'=>e=.returned (.int .u32 (alu op a b))/\∃n,w'=w.drewN n:=by
 by_cases n28:op=28
 ·subst n28;exact still (zkw a b a0 a1 b0 b1 w)
 by_cases n29:op=29
 ·subst n29;exact still (znj a b a0 a1 b0 b1 w)
 by_cases n30:op=30
 ·subst n30;exact znn a b a0 a1 b0 b1 w
 by_cases n31:op=31
 ·subst n31;exact still (znu a b a0 a1 b0 b1 w)
 by_cases n32:op=32
 ·subst n32;exact still (znv a b a0 a1 b0 b1 w)
 by_cases n33:op=33
 ·subst n33;exact still (znk a b a0 a1 b0 b1 w)
 by_cases n34:op=34
 ·subst n34;exact still (zno a b a0 a1 b0 b1 w)
 by_cases n35:op=35
 ·subst n35;exact still (znp a b a0 a1 b0 b1 w)
 by_cases n36:op=36
 ·subst n36;exact still (znl a b a0 a1 b0 b1 w)
 by_cases n37:op=37
 ·subst n37;exact still (znm a b a0 a1 b0 b1 w)
 by_cases n38:op=38
 ·subst n38;exact still (znq a b a0 a1 b0 b1 w)
 by_cases n39:op=39
 ·subst n39;exact still (znr a b a0 a1 b0 b1 w)
 by_cases n40:op=40
 ·subst n40;exact still (zns a b a0 a1 b0 b1 w)
 by_cases n41:op=41
 ·subst n41;exact still (znt a b a0 a1 b0 b1 w)
 by_cases n42:op=42
 ·subst n42;exact still (znw a b a0 a1 b0 b1 w)
 by_cases n43:op=43
 ·subst n43;exact still (znx a b a0 a1 b0 b1 w)
 by_cases n44:op=44
 ·subst n44;exact still (zny a b a0 a1 b0 b1 w)
 by_cases n45:op=45
 ·subst n45;exact still (znz a b a0 a1 b0 b1 w)
 rw[zdY op a b n28 n29 n30 n31 n32 n33 n34 n35 n36 n37 n38 n39 n40 n41 n42 n43 n44 n45]
 exact still (zeX op a b a0 a1 b0 b1 w (by simpa using n28) (by simpa using n29) (by simpa using n30) (by simpa using n31) (by simpa using n32) (by simpa using n33) (by simpa using n34) (by simpa using n35) (by simpa using n36) (by simpa using n37) (by simpa using n38) (by simpa using n39) (by simpa using n40) (by simpa using n41) (by simpa using n42) (by simpa using n43) (by simpa using n44) (by simpa using n45))
theorem zlb(x y:Int):decide (y<=x)=!decide (x<y):=by
 by_cases h:x<y
 ·rw[decide_eq_true h,decide_eq_false (by omega)];rfl
 ·rw[decide_eq_false h,decide_eq_true (by omega)];rfl
theorem zlc(a b:Int)(a0:0<=a)(a1:a<=4294967295)(b0:0<=b)(b1:b<=4294967295)(w:World):
  Calls prog 29 #[.int .i64 5,.int .u32 a,.int .u32 b] w fun e w'=>e=.returned (.bool (holds 5 a b))/\w'=w:=by
 have ha:=zg a a0 a1
 have hb:=zg b b0 b1
 go_enter func29,ntmps29
 go_wp2
 go_ret
 exact⟨rfl,rfl⟩
theorem zld(a b:Int)(a0:0<=a)(a1:a<=4294967295)(b0:0<=b)(b1:b<=4294967295)(w:World):
  Calls prog 29 #[.int .i64 6,.int .u32 a,.int .u32 b] w fun e w'=>e=.returned (.bool (holds 6 a b))/\w'=w:=by
 have ha:=zg a a0 a1
 have hb:=zg b b0 b1
 go_enter func29,ntmps29
 go_wp2
 go_ret
 exact⟨rfl,rfl⟩
theorem zle(a b:Int)(a0:0<=a)(a1:a<=4294967295)(b0:0<=b)(b1:b<=4294967295)(w:World):
  Calls prog 29 #[.int .i64 7,.int .u32 a,.int .u32 b] w fun e w'=>e=.returned (.bool (holds 7 a b))/\w'=w:=by
 have ha:=zg a a0 a1
 have hb:=zg b b0 b1
 go_enter func29,ntmps29
 go_wp2_with(go_at_call 55;refine(zl _ ?_ ?_ _).mono ?_;(iterate 2 omega);rintro e w' ⟨rfl,rfl⟩)
 go_ret
 exact⟨rfl,rfl⟩
theorem zlf(a b:Int)(a0:0<=a)(a1:a<=4294967295)(b0:0<=b)(b1:b<=4294967295)(w:World):
  Calls prog 29 #[.int .i64 8,.int .u32 a,.int .u32 b] w fun e w'=>e=.returned (.bool (holds 8 a b))/\w'=w:=by
 have ha:=zg a a0 a1
 have hb:=zg b b0 b1
 go_enter func29,ntmps29
 go_wp2_with(go_at_call 55;refine(zl _ ?_ ?_ _).mono ?_;(iterate 2 omega);rintro e w' ⟨rfl,rfl⟩)
 go_ret
 exact⟨zdX (zlb _ _),rfl⟩
theorem zlg(a b:Int)(a0:0<=a)(a1:a<=4294967295)(b0:0<=b)(b1:b<=4294967295)(w:World):
  Calls prog 29 #[.int .i64 9,.int .u32 a,.int .u32 b] w fun e w'=>e=.returned (.bool (holds 9 a b))/\w'=w:=by
 have ha:=zg a a0 a1
 have hb:=zg b b0 b1
 go_enter func29,ntmps29
 go_wp2
 go_ret
 exact⟨rfl,rfl⟩
theorem ziZ(a b:Int)(a0:0<=a)(a1:a<=4294967295)(b0:0<=b)(b1:b<=4294967295)(w:World):
  Calls prog 29 #[.int .i64 10,.int .u32 a,.int .u32 b] w fun e w'=>e=.returned (.bool (holds 10 a b))/\w'=w:=by
 have ha:=zg a a0 a1
 have hb:=zg b b0 b1
 go_enter func29,ntmps29
 go_wp2
 go_ret
 exact⟨rfl,rfl⟩
theorem zbP(op a b:Int)(w:World)(n5:(op==5)=false)(n6:(op==6)=false)(n7:(op==7)=false)(n8:(op==8)=false)(n9:(op==9)=false)(n10:(op==10)=false):
  Calls prog 29 #[.int .i64 op,.int .u32 a,.int .u32 b] w fun e w'=>e=.returned (.bool false)/\w'=w:=by
 go_enter func29,ntmps29
 go_wp2
 go_ret
 exact⟨rfl,rfl⟩
theorem zeY(op:Int)(a b:Int)(a0:0<=a)(a1:a<=4294967295)(b0:0<=b)(b1:b<=4294967295)(w:World):
  Calls prog 29 #[.int .i64 op,.int .u32 a,.int .u32 b] w fun e w'=>e=.returned (.bool (holds op a b))/\w'=w:=by
 by_cases n5:op=5
 ·subst n5;exact zlc a b a0 a1 b0 b1 w
 by_cases n6:op=6
 ·subst n6;exact zld a b a0 a1 b0 b1 w
 by_cases n7:op=7
 ·subst n7;exact zle a b a0 a1 b0 b1 w
 by_cases n8:op=8
 ·subst n8;exact zlf a b a0 a1 b0 b1 w
 by_cases n9:op=9
 ·subst n9;exact zlg a b a0 a1 b0 b1 w
 by_cases n10:op=10
 ·subst n10;exact ziZ a b a0 a1 b0 b1 w
 rw[holds_none op a b n5 n6 n7 n8 n9 n10]
 exact zbP op a b w (by simpa using n5) (by simpa using n6) (by simpa using n7) (by simpa using n8) (by simpa using n9) (by simpa using n10)
end Go.Proofs.YtpiohehijkpghabGreatDoor
namespace Go.Proofs.YtpiohehijkpghabGreatDoor
open Go.RowKit
open Hy
attribute [local go_sem ↓] Go.wp_at_zero Go.wp_at_succ
theorem bcell{W w1:World}{B:Nat}(hb:Below B W w1):(∀b o,b<B->w1.cell? ⟨b,o,none⟩=W.cell? ⟨b,o,none⟩)/\(∀b o,b<B->w1.frozen? ⟨b,o,none⟩=W.frozen? ⟨b,o,none⟩):=
 ⟨fun b o h=>hb.cell (p:=⟨b,o,none⟩) h,fun b o h=>hb.frozen (p:=⟨b,o,none⟩) h⟩
abbrev fv(c:Nat->Int):Value:=.agg #[.int .u32 (c 0),.int .u32 (c 1),.int .u32 (c 2),.int .u32 (c 3),.int .u32 (c 4),.int .u32 (c 5),.int .u32 (c 6),.int .u32 (c 7),.int .u32 (c 8),.int .u32 (c 9),.int .u32 (c 10),.int .u32 (c 11),.int .u32 (c 12),.int .u32 (c 13),.int .u32 (c 14),.int .u32 (c 15),.int .u32 (c 16)]
abbrev pcs(c:Nat->Int):Value:=.agg #[.int .u32 (c 5),.int .u32 (c 6),.int .u32 (c 7),.int .u32 (c 8),.int .u32 (c 9),.int .u32 (c 10),.int .u32 (c 11),.int .u32 (c 12),.int .u32 (c 13),.int .u32 (c 14),.int .u32 (c 15),.int .u32 (c 16)]
theorem ix0(c:Nat->Int)(w:World):(Instr.index 202 (pcs c) (.int .i64 0)).run prog w=.ok (.agg #[.int .u32 (c 5),.int .u32 (c 6),.int .u32 (c 7)]) w:=by kernel_rfl
theorem ix1(c:Nat->Int)(w:World):(Instr.index 202 (pcs c) (.int .i64 1)).run prog w=.ok (.agg #[.int .u32 (c 8),.int .u32 (c 9),.int .u32 (c 10)]) w:=by kernel_rfl
theorem ix2(c:Nat->Int)(w:World):(Instr.index 202 (pcs c) (.int .i64 2)).run prog w=.ok (.agg #[.int .u32 (c 11),.int .u32 (c 12),.int .u32 (c 13)]) w:=by kernel_rfl
theorem ix3(c:Nat->Int)(w:World):(Instr.index 202 (pcs c) (.int .i64 3)).run prog w=.ok (.agg #[.int .u32 (c 14),.int .u32 (c 15),.int .u32 (c 16)]) w:=by kernel_rfl
theorem zc0(c:Nat->Int)(x:Int)(x0:0<=x)(x1:x<=4294967295)
  (hb:∀j,1<=j->0<=c j/\c j<=31) (w:World):
  Calls prog 165 #[fv c,.int .u32 x] w fun e w'=>e=.returned (.int .i32 (rim c x))/\Below w.heap.size w w':=by
 have i0:=ix0 c
 have i1:=ix1 c
 have i2:=ix2 c
 have i3:=ix3 c
 go_enter func165,ntmps165
 go_wp2
 go_loopw [5,7,10] (fun b p k wl=>∃j:Nat,j<=4/\k=.int .i64 j/\b=.int .u32 (ib c x j)/\Below (w.heap.size+1) (w.alloc (.cells #[.int .u32 (c 0),.int .u32 (c 1),.int .u32 (c 2),.int .u32 (c 3),.int .u32 (c 4),.int .u32 (c 5),.int .u32 (c 6),.int .u32 (c 7),.int .u32 (c 8),.int .u32 (c 9),.int .u32 (c 10),.int .u32 (c 11),.int .u32 (c 12),.int .u32 (c 13),.int .u32 (c 14),.int .u32 (c 15),.int .u32 (c 16)] 204)) wl/\w.heap.size<wl.heap.size) (fun _ _ k _=>4-(intOf k).toNat)
 case atStart=>exact⟨0,by omega,rfl,rfl,Below.refl _ _,by simp⟩
 case round=>
  obtain⟨j,hj,rfl,rfl,hbe,hsz⟩:=hrel
  obtain⟨T,hTb⟩:∃T,T=ib c x j:=⟨_,rfl⟩
  have HT:Hid (T=ib c x j):=hTb
  rw[<-hTb]
  clear hTb
  by_cases hlt:j<4
  ·have hj3:j=0\/j=1\/j=2\/j=3:=by omega
   rcases hj3 with rfl|rfl|rfl|rfl
   ·obtain⟨h00,h01⟩:0<=c 6/\c 6<=31:=hb 6 (by omega)
    have hbe2:=hbe.alloc hsz (.cells #[.int .u32 (c 5),.int .u32 (c 6),.int .u32 (c 7)] 201)
    go_wp2_with fail
    go_region_held3 (fun w'=>w'.cell? ⟨wr.heap.size,0,none⟩=some (.int .u32 (c 5))/\w'.cell? ⟨wr.heap.size,1,none⟩=some (.int .u32 (c 6))/\w'.cell? ⟨wr.heap.size,2,none⟩=some (.int .u32 (c 7))) (first|go_keep|(obtain⟨hc,hf⟩:=bcell hk;refine⟨?_,?_,?_⟩<;>(rw[hc _ _ (by simp)];go_keep))) ((go_at_call 166;refine(yx _ _ _ ?_ ?_ _).mono ?_;(iterate 2 omega);rintro e w' ⟨rfl,hk⟩))
    replace hbe2:=hbe2.drew.trans (hk.mono (B':=w.heap.size+1) (by simp;omega))
    have hs:=hk.size
    simp at hs
    go_wp2
    refine⟨⟨1,by omega,by go_num,?_,hbe2,by omega⟩,by simp[intOf]⟩
    rw[ib,<-HT.out];rfl
   ·obtain⟨h00,h01⟩:0<=c 9/\c 9<=31:=hb 9 (by omega)
    have hbe2:=hbe.alloc hsz (.cells #[.int .u32 (c 8),.int .u32 (c 9),.int .u32 (c 10)] 201)
    go_wp2_with fail
    go_region_held3 (fun w'=>w'.cell? ⟨wr.heap.size,0,none⟩=some (.int .u32 (c 8))/\w'.cell? ⟨wr.heap.size,1,none⟩=some (.int .u32 (c 9))/\w'.cell? ⟨wr.heap.size,2,none⟩=some (.int .u32 (c 10))) (first|go_keep|(obtain⟨hc,hf⟩:=bcell hk;refine⟨?_,?_,?_⟩<;>(rw[hc _ _ (by simp)];go_keep))) ((go_at_call 166;refine(yx _ _ _ ?_ ?_ _).mono ?_;(iterate 2 omega);rintro e w' ⟨rfl,hk⟩))
    replace hbe2:=hbe2.drew.trans (hk.mono (B':=w.heap.size+1) (by simp;omega))
    have hs:=hk.size
    simp at hs
    go_wp2
    refine⟨⟨2,by omega,by go_num,?_,hbe2,by omega⟩,by simp[intOf]⟩
    rw[ib,<-HT.out];rfl
   ·obtain⟨h00,h01⟩:0<=c 12/\c 12<=31:=hb 12 (by omega)
    have hbe2:=hbe.alloc hsz (.cells #[.int .u32 (c 11),.int .u32 (c 12),.int .u32 (c 13)] 201)
    go_wp2_with fail
    go_region_held3 (fun w'=>w'.cell? ⟨wr.heap.size,0,none⟩=some (.int .u32 (c 11))/\w'.cell? ⟨wr.heap.size,1,none⟩=some (.int .u32 (c 12))/\w'.cell? ⟨wr.heap.size,2,none⟩=some (.int .u32 (c 13))) (first|go_keep|(obtain⟨hc,hf⟩:=bcell hk;refine⟨?_,?_,?_⟩<;>(rw[hc _ _ (by simp)];go_keep))) ((go_at_call 166;refine(yx _ _ _ ?_ ?_ _).mono ?_;(iterate 2 omega);rintro e w' ⟨rfl,hk⟩))
    replace hbe2:=hbe2.drew.trans (hk.mono (B':=w.heap.size+1) (by simp;omega))
    have hs:=hk.size
    simp at hs
    go_wp2
    refine⟨⟨3,by omega,by go_num,?_,hbe2,by omega⟩,by simp[intOf]⟩
    rw[ib,<-HT.out];rfl
   ·obtain⟨h00,h01⟩:0<=c 15/\c 15<=31:=hb 15 (by omega)
    have hbe2:=hbe.alloc hsz (.cells #[.int .u32 (c 14),.int .u32 (c 15),.int .u32 (c 16)] 201)
    go_wp2_with fail
    go_region_held3 (fun w'=>w'.cell? ⟨wr.heap.size,0,none⟩=some (.int .u32 (c 14))/\w'.cell? ⟨wr.heap.size,1,none⟩=some (.int .u32 (c 15))/\w'.cell? ⟨wr.heap.size,2,none⟩=some (.int .u32 (c 16))) (first|go_keep|(obtain⟨hc,hf⟩:=bcell hk;refine⟨?_,?_,?_⟩<;>(rw[hc _ _ (by simp)];go_keep))) ((go_at_call 166;refine(yx _ _ _ ?_ ?_ _).mono ?_;(iterate 2 omega);rintro e w' ⟨rfl,hk⟩))
    replace hbe2:=hbe2.drew.trans (hk.mono (B':=w.heap.size+1) (by simp;omega))
    have hs:=hk.size
    simp at hs
    go_wp2
    refine⟨⟨4,by omega,by go_num,?_,hbe2,by omega⟩,by simp[intOf]⟩
    rw[ib,<-HT.out];rfl
  ·obtain rfl:j=4:=by omega
   obtain⟨h00,h01⟩:0<=c 4/\c 4<=31:=hb 4 (by omega)
   obtain⟨hc,hf⟩:=bcell hbe
   have h4:wr.cell? ⟨w.heap.size,4,none⟩=some (.int .u32 (c 4)):=by rw[hc _ _ (by omega)];simp[go_sem]
   clear hc hf
   go_wp2
   go_ret
   exact⟨by rw[HT.out];rfl,((Below.refl _ _).alloc (Nat.le_refl _) _).trans (hbe.mono (by omega))⟩
abbrev iv(op rd rs1 rs2 imm:Int):Value:=.agg #[.int .i64 op,.int .i64 rd,.int .i64 rs1,.int .i64 rs2,.int .i32 imm]
end Go.Proofs.YtpiohehijkpghabGreatDoor
namespace Go.Proofs.YtpiohehijkpghabGreatDoor
open Go.RowKit
open Hy
structure Fr(w:World)(B h n:Nat)(f:Nat->Int):Prop where
 base:B<=h
 lt:h<w.heap.size
 cell:∀i,i<n->w.cell? ⟨h,i,none⟩=some (.int .u8 (f i))
 free:∀i,i<n->w.frozen? ⟨h,i,none⟩=false
theorem Fr.congr{w:World}{B h n:Nat}{f f':Nat->Int}(H:Fr w B h n f)(e:∀i,i<n->f i=f' i):Fr w B h n f':=
 ⟨H.base,H.lt,fun i hi=>by rw[<-e i hi];exact H.cell i hi,H.free⟩
theorem Fr.set{w:World}{B h n:Nat}{f:Nat->Int}(H:Fr w B h n f)(k:Nat)(hk:k<n)(v:Int):Fr (w.setCell ⟨h,k,none⟩ (.int .u8 v)) B h n (fun i=>if i=k then v else f i):=by
 refine⟨H.base,by simpa using H.lt,fun i hi=>?_,fun i hi=>by rw[World.frozen?_setCell];exact H.free i hi⟩
 by_cases e:i=k
 ·subst e
  rw[World.cell?_setCell_same _ _ _ (H.cell i hi),if_pos rfl]
 ·rw[World.cell?_setCell_other _ _ _ _ (by intro h';cases h';omega),if_neg e]
  exact H.cell i hi
theorem Fr.moved{w w':World}{B B' h n:Nat}{f:Nat->Int}(H:Fr w B h n f)(hB:B'<=h)(hh:w'.heap[h]?=w.heap[h]?)(hs:w.heap.size<=w'.heap.size):Fr w' B' h n f:=
 ⟨hB,Nat.lt_of_lt_of_le H.lt hs,fun i hi=>(World.cell?_of_block (w:=w) (a:=⟨h,i,none⟩) hh).trans (H.cell i hi),fun i hi=>(World.frozen?_of_block (w:=w) (a:=⟨h,i,none⟩) hh).trans (H.free i hi)⟩
theorem znA:(prog.info? 5).map (fun i=>(i.zero,i.size,i.bytes))=some (some (.int .u8 0),1,1):=by kernel_rfl
theorem zbQ{w:World}{B n:Nat}{v:Value}{f:Nat->Int}(hn:0<n)(hown:w.ownsRow B 5 1 v n ((List.range n).map fun i=>Value.int .u8 (f i))):
  ∃h cap,v=.slice (some ⟨h,0,none⟩) n cap/\n<=cap/\cap<=maxLen/\Fr w B h n f:=by
 have hown0:=hown
 obtain⟨_,hcase⟩:=hown
 rcases hcase with⟨_,h0⟩|⟨g,cap',cur,rfl,hg,hh,hn',hcap,hsz,htake⟩
 ·omega
 ·refine⟨g,cap',rfl,hn',hcap,hg,?_,fun i hi=>?_,fun i hi=>by simp[World.frozen?,hh]⟩
  ·exact(Array.getElem?_eq_some_iff.1 hh).1
  ·rw[hown0.cellAt i (by omega)]
   simp[hi]
theorem zgn(g o n c:Nat)(f:Nat->Int)(h0:0<n)(hn:n<=140737488355328)(w:World)(hc:Lies w g o n f):
  Calls prog 86 #[.slice (some ⟨g,o,none⟩) n c] w fun e w'=>(∃h cap,e=.returned (.slice (some ⟨h,0,none⟩) n cap)/\n<=cap/\cap<=maxLen/\Fr w' w.heap.size h n f)/\Below w.heap.size w w':=by
 obtain⟨i0,hi,hz0,hz1,hz2⟩:=info_parts znA
 have q22:∀(w:World) (a:Option Addr) (n c n' c':Nat),(binOp .eql 28 (.slice a n c) (.slice none n' c')).run prog w=.ok (.bool a.isNone) w:=fun w a n c n' c'=>Lib.run_eql_slice_nil w _ _ a n c n' c' underlying28
 have A:Hid (Lies w g o n f):=hc
 clear hc
 go_enter func86,ntmps86
 go_wp2_with(at_builtin;refine wpList_append_own _ rfl _ _ 28 rfl w.heap.size 5 i0 (.int .u8 0) 1 1 underlying28 hi hz0 hz1 hz2 rfl (by decide) _ _ _ rfl (World.ownsRow_made w #[] 0 (Nat.le_refl _) (Nat.zero_le _) rfl) ⟨g,o,none⟩ n c ((List.range n).map fun i=>Value.int .u8 (f i)) rfl ?qc1 ?qc2 ?qc3 ?qc4 ?qc5 ?qc6 ?_)
 case qc1=>simp
 case qc2=>
  intro j u hj
  have hjn:j<n:=by
   have:=(List.getElem?_eq_some_iff.1 hj).1
   simpa using this
  have hb:=World.block_lt_of_cell? _ _ (A.out j hjn)
  rw[((Below.refl w.heap.size w).alloc (Nat.le_refl _) _).cell (by rw[Go.WideShapes.add_plain];exact hb)]
  simp[hjn]at hj
  rw[<-hj,Go.WideShapes.add_plain]
  exact A.out j hjn
 case qc3=>intro u hu;obtain⟨x,_,rfl⟩:=List.mem_map.1 hu;rfl
 case qc4=>unfold maxLen;omega
 case qc5=>omega
 case qc6=>simp
 intro v' w1 hown hgrow hnil
 go_wp2
 go_ret
 have hown':w1.ownsRow w.heap.size 5 1 v' n ((List.range n).map fun i=>Value.int .u8 (f i)):=by simpa using hown
 obtain⟨h,cap,rfl,a1,a2,a3⟩:=zbQ h0 hown'
 exact⟨⟨h,cap,rfl,a1,a2,a3⟩,((Below.refl _ w).alloc (Nat.le_refl _) _).grown hgrow (by simp) (by intro k hk;simp[Value.ownBlock]at hk;omega)⟩
def sto(f:Nat->Int)(a:Nat)(W:Int)(j i:Nat):Int:=if a<=i/\i<a+j then W/p256 (i-a)%256 else f i
theorem zi0(f:Nat->Int)(a:Nat)(W:Int)(j i:Nat):(if i=a+j then W/p256 j%256 else sto f a W j i)=sto f a W (j+1) i:=by
 unfold sto
 by_cases e:i=a+j
 ·subst e
  rw[if_pos rfl,if_pos ⟨by omega,by omega⟩,show a+j-a=j by omega]
 ·rw[if_neg e]
  by_cases h:a<=i/\i<a+j
  ·rw[if_pos h,if_pos ⟨h.1,by omega⟩]
  ·rw[if_neg h,if_neg (by omega)]
theorem Fr.step{w:World}{B h n:Nat}{f:Nat->Int}{a j:Nat}{W:Int}(H:Fr w B h n (sto f a W j))(hk:a+j<n)(v:Int)(hv:v=W/p256 j%256):Fr (w.setCell ⟨h,a+j,none⟩ (.int .u8 v)) B h n (sto f a W (j+1)):=by
 subst hv
 exact(H.set (a+j) hk _).congr fun i _=>zi0 f a W j i
theorem zgo(p:Option Addr)(n c:Nat)(op a:Int)(hn:n<=140737488355328)(a0:0<=a)(a1:a<=4294967295)(h:¬(0<stn op/\a%stn op=0/\a+stn op<=n))(w:World):
  Calls prog 85 #[.slice p n c,.int .i64 op,.int .u32 a] w fun e w'=>e=.returned (.int .u32 0)/\w'=w:=by
 have hd:decide (0<stn op/\a%stn op=0/\a+stn op<=n)=false:=decide_eq_false h
 have hm:=jL op
 obtain⟨m,hM⟩:∃m,m=stn op:=⟨_,rfl⟩
 have C1:=zag op
 rw[<-hM]at hd hm C1
 have C2:=fun w=>xt p n c a m hn a0 a1 hm w
 rw[hd]at C2
 clear hM h hd hm
 go_enter func85,ntmps85
 go_wp2_with fail
 refine(C1 _).mono ?_
 rintro e w' ⟨rfl,rfl⟩
 go_wp2_with fail
 refine(C2 _).mono ?_
 rintro e w' ⟨rfl,rfl⟩
 go_wp2_with fail
 go_ret
 exact⟨rfl,rfl⟩
theorem zam(p:Option Addr)(n c:Nat)(op a:Int)(hn:n<=140737488355328)(a0:0<=a)(a1:a<=4294967295)(h:0<stn op/\a%stn op=0/\a+stn op<=n)(w:World):
  Calls prog 85 #[.slice p n c,.int .i64 op,.int .u32 a] w fun e w'=>e=.returned (.int .u32 (stn op))/\w'=w:=by
 have hd:decide (0<stn op/\a%stn op=0/\a+stn op<=n)=true:=decide_eq_true h
 have hm:=jL op
 obtain⟨m,hM⟩:∃m,m=stn op:=⟨_,rfl⟩
 have C1:=zag op
 rw[<-hM]at hd hm C1⊢
 have C2:=fun w=>xt p n c a m hn a0 a1 hm w
 rw[hd]at C2
 clear hM h hd hm
 go_enter func85,ntmps85
 go_wp2_with fail
 refine(C1 _).mono ?_
 rintro e w' ⟨rfl,rfl⟩
 go_wp2_with fail
 refine(C2 _).mono ?_
 rintro e w' ⟨rfl,rfl⟩
 go_wp2_with fail
 go_ret
 exact⟨rfl,rfl⟩
theorem zgp(p:Option Addr)(n c:Nat)(op a W:Int)(hn:n<=140737488355328)(a0:0<=a)(a1:a<=4294967295)(h:¬(0<stn op/\a%stn op=0/\a+stn op<=n))(w:World):
  Calls prog 30 #[.slice p n c,.int .i64 op,.int .u32 a,.int .u32 W] w fun e w'=>e=.returned (.tuple #[.slice none 0 0,.bool false])/\w'=w:=by
 have hd:decide (0<stn op/\a%stn op=0/\a+stn op<=n)=false:=decide_eq_false h
 have hm:=jL op
 obtain⟨m,hM⟩:∃m,m=stn op:=⟨_,rfl⟩
 have C1:=jo op
 rw[<-hM]at hd hm C1
 have C2:=fun w=>xY p n c a m hn a0 a1 hm w
 rw[hd]at C2
 clear hM h hd hm
 go_enter func30,ntmps30
 go_wp2_with fail
 refine(C1 _).mono ?_
 rintro e w' ⟨rfl,rfl⟩
 go_wp2_with fail
 refine(C2 _).mono ?_
 rintro e w' ⟨rfl,rfl⟩
 go_wp2_with fail
 go_ret2
 exact⟨rfl,rfl⟩
theorem zeZ(g o n c:Nat)(op:Int)(a m:Nat)(W:Int)(f:Nat->Int)(hM:stn op=(m:Int))(hn:n<=140737488355328)(a1:a<=4294967295)(h0:0<m)(h1:a%m=0)(h2:a+m<=n)(hnc:n<=c)(W0:0<=W)(W1:W<=4294967295)(w:World)
  (hc:Lies w g o n f):
  Calls prog 30 #[.slice (some ⟨g,o,none⟩) n c,.int .i64 op,.int .u32 a,.int .u32 W] w fun e w'=>(∃h cap,e=.returned (.tuple #[.slice (some ⟨h,0,none⟩) n cap,.bool true])/\n<=cap/\Fr w' w.heap.size h n (sto f a W m))/\Below w.heap.size w w':=by
 have hm':=jL op
 have hm:m=1\/m=2\/m=4:=by omega
 have C1:=jo op
 rw[hM]at C1 hm'
 have C2:=fun w=>xY (some ⟨g,o,none⟩) n c a m hn (by omega) (by omega) hm' w
 have hd:decide (0<(m:Int)/\(a:Int)%m=0/\(a:Int)+m<=n)=true:=decide_eq_true ⟨by omega,by omega,by omega⟩
 rw[hd]at C2
 clear hd hm'
 obtain⟨i0,hi,hz0,hz1,hz2⟩:=info_parts znA
 have A:Hid (Lies w g o n f):=hc
 clear hc
 go_enter func30,ntmps30
 go_wp2_with fail
 refine(C1 _).mono ?_
 rintro e w' ⟨rfl,rfl⟩
 go_wp2_with fail
 refine(C2 _).mono ?_
 rintro e w' ⟨rfl,rfl⟩
 clear C1 C2
 go_wp2_with(at_builtin;refine wpList_append_own _ rfl _ _ 28 rfl w'.heap.size 5 i0 (.int .u8 0) 1 1 underlying28 hi hz0 hz1 hz2 rfl (by decide) _ _ _ rfl (World.ownsRow_made w' #[] 0 (Nat.le_refl _) (Nat.zero_le _) rfl) ⟨g,o,none⟩ n c ((List.range n).map fun i=>Value.int .u8 (f i)) rfl ?qc1 ?qc2 ?qc3 ?qc4 ?qc5 ?qc6 ?_)
 case qc1=>simp
 case qc2=>
  intro j u hj
  have hjn:j<n:=by
   have:=(List.getElem?_eq_some_iff.1 hj).1
   simpa using this
  have hb:=World.block_lt_of_cell? _ _ (A.out j hjn)
  rw[((Below.refl w'.heap.size w').alloc (Nat.le_refl _) _).cell (by rw[Go.WideShapes.add_plain];exact hb)]
  simp[hjn]at hj
  rw[<-hj,Go.WideShapes.add_plain]
  exact A.out j hjn
 case qc3=>intro u hu;obtain⟨x,_,rfl⟩:=List.mem_map.1 hu;rfl
 case qc4=>unfold maxLen;omega
 case qc5=>omega
 case qc6=>simp
 intro v' w1 hown hgrow hnil
 have hown':w1.ownsRow w'.heap.size 5 1 v' n ((List.range n).map fun i=>Value.int .u8 (f i)):=by simpa using hown
 obtain⟨h,cap,rfl,hcap,hmax,hF⟩:=zbQ (by omega) hown'
 have hB:Below w'.heap.size w' w1:=((Below.refl _ w').alloc (Nat.le_refl _) _).grown hgrow (by simp) (by intro k hk;simp[Value.ownBlock]at hk;omega)
 clear hown hgrow hnil hown' A hi hz0 hz1 hz2
 go_wp2_with fail
 go_loopw [12,13] (fun t k wr=>∃j:Nat,j<=m/\k=.int .i64 j/\t=.int .i64 (W/p256 j)/\Fr wr w'.heap.size h n (sto f a W j)/\Below w'.heap.size w' wr) (fun _ k _=>m-(intOf k).toNat)
 case atStart=>exact⟨0,by omega,rfl,int_eq (by rw[show p256 0=1 from rfl,Int.ediv_one]),hF.congr fun i _=>by unfold sto;rw[if_neg (by omega)],hB⟩
 case round=>
  obtain⟨j,hj,rfl,rfl,hF,hB⟩:=hrel
  by_cases hlt:j<m
  ·have c0:=hF.cell (a+j) (by omega)
   have z0:=hF.free (a+j) (by omega)
   rcases(by omega:j=0\/j=1\/j=2\/j=3)with rfl|rfl|rfl|rfl
   ·rw[Nat.add_zero]at c0 z0
    rw[show p256 0=1 from rfl,Int.ediv_one]
    go_wp2
    refine⟨⟨1,by omega,rfl,rfl,hF.step (j:=0) (by omega) _ (by rw[show p256 0=1 from rfl,Int.ediv_one]),hB.setCell hF.base _⟩,by simp[intOf];omega⟩
   ·rw[show p256 1=256 from rfl]
    obtain⟨T,hT⟩:∃T,T=W/256:=⟨_,rfl⟩
    have tb:0<=T/\T<=16777215:=by omega
    rw[<-hT]
    have HT:Hid (T=W/256):=hT
    clear hT
    go_wp2
    refine⟨⟨2,by omega,rfl,int_eq (by have h':=HT.out;rw[show p256 2=65536 from rfl];omega),hF.step (j:=1) (by omega) _ (by have h':=HT.out;rw[show p256 1=256 from rfl];omega),hB.setCell hF.base _⟩,by simp[intOf];omega⟩
   ·rw[show p256 2=65536 from rfl]
    obtain⟨T,hT⟩:∃T,T=W/65536:=⟨_,rfl⟩
    have tb:0<=T/\T<=65535:=by omega
    rw[<-hT]
    have HT:Hid (T=W/65536):=hT
    clear hT
    go_wp2
    refine⟨⟨3,by omega,rfl,int_eq (by have h':=HT.out;rw[show p256 3=16777216 from rfl];omega),hF.step (j:=2) (by omega) _ (by have h':=HT.out;rw[show p256 2=65536 from rfl];omega),hB.setCell hF.base _⟩,by simp[intOf];omega⟩
   ·rw[show p256 3=16777216 from rfl]
    obtain⟨T,hT⟩:∃T,T=W/16777216:=⟨_,rfl⟩
    have tb:0<=T/\T<=255:=by omega
    rw[<-hT]
    have HT:Hid (T=W/16777216):=hT
    clear hT
    go_wp2
    refine⟨⟨4,by omega,rfl,int_eq (by have h':=HT.out;rw[show p256 4=4294967296 from rfl];omega),hF.step (j:=3) (by omega) _ (by have h':=HT.out;rw[show p256 3=16777216 from rfl];omega),hB.setCell hF.base _⟩,by simp[intOf];omega⟩
  ·obtain rfl:j=m:=by omega
   obtain⟨T,hT⟩:∃T,T=W/p256 j:=⟨_,rfl⟩
   rw[<-hT]
   clear hT
   go_wp2
   go_ret2
   exact⟨⟨h,cap,rfl,hcap,hF⟩,hB⟩
theorem ze0(p1 p2:Option Addr)(n c1 c2:Nat)(xs:List Int)(hx:xs.length=n)(w:World)(h1:Lib.BytesIn w p1 n xs)(h2:Lib.BytesIn w p2 n xs):
  Calls prog 9 #[.slice p1 n c1,.slice p2 n c2] w fun e w'=>e=.returned (.bool true)/\w'=w:=by
 have k1:=h1.convert (P:=prog) hx c1 28 5 9 underlying28 underlying5 underlying9
 have k2:=h2.convert (P:=prog) hx c2 28 5 9 underlying28 underlying5 underlying9
 clear h1 h2
 go_enter func9,ntmps9
 go_wp2
 go_ret
 exact⟨by simp,rfl⟩
theorem Lies.below{w w':World}{g o n:Nat}{f:Nat->Int}(h:Lies w g o n f)(hb:Below w.heap.size w w'):Lies w' g o n f:=fun i hi=>by
 have hlt:=World.block_lt_of_cell? _ _ (h i hi)
 rw[hb.cell hlt]
 exact h i hi
theorem Lies.part{w:World}{g o n:Nat}{f:Nat->Int}(h:Lies w g o n f)(a m:Nat)(ham:a+m<=n):Lies w g (o+a) m (fun i=>f (a+i)):=fun i hi=>by
 rw[Nat.add_assoc]
 exact h (a+i) (by omega)
def pv(cs:Array Value)(j:Nat):Int:=match cs[j]? with
 |some (.int .u32 v)=>v
 |_=>0
def chk(cs:Array Value):Nat->Bool
 |0=>true
 |n+1=>(match cs[n]? with
  |some (.int .u32 _)=>true
  |_=>false)&&chk cs n
theorem zkx(cs:Array Value):∀n,chk cs n=true->∀j,j<n->cs[j]?=some (.int .u32 (pv cs j))
 |0,_,j,h=>by omega
 |n+1,hk,j,h=>by
  simp only[chk,Bool.and_eq_true]at hk
  by_cases e:j=n
  ·subst e
   have h1:=hk.1
   unfold pv
   split at h1
   ·rename_i v hv;rw[hv]
   ·cases h1
  ·exact zkx cs n hk.2 j (by omega)
theorem ze1{w w2:World}{o:Obj}(k:Below (w.alloc o).heap.size (w.alloc o) w2):Below w.heap.size w w2:=
 ((Below.refl _ _).alloc (Nat.le_refl _) o).trans (k.mono (by simp))
theorem zi1(f:Int)(cs:Array Value)(n:Nat)(t:TypeId)(g:Nat)(w:World)(hg:g=w.heap.size)(hn:n<=3)(hk:chk cs n=true):
  Calls prog 164 #[.int .i64 f,.slice (some ⟨g,0,none⟩) n n] (w.alloc (.cells cs t)) fun e w'=>e=.returned (.agg #[.int .i64 f,.int .u32 (tb (pv cs) n)])/\Below w.heap.size w w':=by
 subst hg
 exact(zeU n hn f _ (pv cs) _ (by simp) (by
  intro j hj
  rw[World.cell?_alloc_at _ _ _ _ rfl]
  exact zkx cs n hk j hj)).mono fun e w' ⟨he,hb⟩=>⟨he,ze1 hb⟩
def zeros:List Value->Nat->List Value
 |l,0=>l
 |l,n+1=>.int .i64 0::.int .u32 0::zeros l n
def xJ:Array Value:=(zeros [] 49).toArray
def kcells:Nat->List Value
 |0=>[]
 |n+1=>kcells n++[.int .i64 (kf n),.int .u32 (kb n)]
def kc:Array Value:=(kcells 49).toArray
theorem zgq{P:Program}{o:Oper}{a:Act}{K:Act->World->Prop}{Q:Exit->Act->World->Prop}{r:Result Next}(r':Result Next)(h:r=r')(k:o.upon P a K Q r'):o.upon P a K Q r:=h▸k
theorem znB:(prog.info? 198).map (·.size)=some kc.size:=by kernel_rfl
theorem zlh:kc.all (·.oneCell')=true:=by kernel_rfl
theorem zgr:xJ.size=kc.size:=by kernel_rfl
theorem zli{w w':World}(hb:Below (w.heap.size+1) (w.alloc (.cells xJ 198)) w'):
  (storeCells ⟨w.heap.size,0,none⟩ kc.toList).run prog w'=.ok () (w'.setRow w.heap.size kc):=by
 have hg:w'.heap[w.heap.size]?=some (.cells xJ 198 (0,0)):=(hb.block _ (by omega)).trans (heap_alloc_last _ _)
 have:=run_storeCells_from (P:=prog) w.heap.size 198 kc.toList 0 xJ w' hg (by rw[zgr];simp) (fun v hv=>(Array.all_eq_true_iff_forall_mem.1 zlh) v (by simpa using hv))
 rw[List.take_zero,List.nil_append,Array.toArray_toList]at this
 exact this
theorem znC{w w':World}(hb:Below (w.heap.size+1) (w.alloc (.cells xJ 198)) w'):
  (loadVar 198 ⟨w.heap.size,0,none⟩).run prog (w'.setRow w.heap.size kc)=.ok (.agg kc) (w'.setRow w.heap.size kc):=by
 have hg:w'.heap[w.heap.size]?=some (.cells xJ 198 (0,0)):=(hb.block _ (by omega)).trans (heap_alloc_last _ _)
 exact run_loadVar_row _ _ 198 198 kc (0,0) _ (setRow_heap w' _ _ kc 198 (0,0) hg) underlying198 rfl znB
theorem zbR{w w':World}{o:Obj}{c:Array Value}(hb:Below (w.heap.size+1) (w.alloc o) w'):Below w.heap.size w (w'.setRow w.heap.size c):=by
 have h:=((Below.refl w.heap.size w).alloc (Nat.le_refl _) o).trans (hb.mono (by omega))
 exact⟨h.os,h.tape,h.output,by simpa using h.size,fun k hk=>(setRow_other _ _ _ _ (by omega)).trans (h.block k hk)⟩
theorem zgs(w:World):Calls prog 144 #[] w fun e w'=>e=.returned (.agg kc)/\Below w.heap.size w w':=by
 have hb:Below (w.heap.size+1) (w.alloc (.cells xJ 198)) (w.alloc (.cells xJ 198)):=Below.refl _ _
 have hB:w.heap.size+1<=(w.alloc (.cells xJ 198)).heap.size:=by simp
 go_enter func144,ntmps144
 go_wp2_with fail
 rw[show zeroCells198=xJ from by kernel_rfl]
 go_wp2_with(go_at_call 164;refine(zi1 _ _ _ _ _ _ ?_ ?_ ?_).mono ?_;(iterate 1 simp);(iterate 1 omega);(iterate 1 exact rfl);rintro e w' ⟨rfl,hk⟩;replace hb:=hb.trans (hk.mono hB);replace hB:=Nat.le_trans hB hk.size;clear hk)
 refine zgq (.ok .skip (w'.setRow w.heap.size kc)) ?_ ?_
 ·refine Eq.trans (b:=((storeCells ⟨w.heap.size,0,none⟩ kc.toList).run prog w').andThen fun a w'=>Result.ok Next.skip w') (by kernel_rfl) ?_
  rw[zli hb]
  rfl
 rw[Oper.upon_skip]
 go_wp2_with fail
 refine bodyPost_ret (v:=.agg kc) ?_ rfl ⟨rfl,zbR hb⟩
 simp[results,results144,asAddr,Act.put,znC hb]
end Go.Proofs.YtpiohehijkpghabGreatDoor
