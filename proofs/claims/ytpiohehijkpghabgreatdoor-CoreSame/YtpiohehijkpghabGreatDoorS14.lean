/- The document's reckoning of a word as an instruction of the form J. -/
import Derived.Test.YtpiohehijkpghabGreatDoorS13
set_option maxHeartbeats 1000000
set_option linter.unusedVariables false
open Go.Proofs.Tryz
namespace Go.Proofs.YtpiohehijkpghabGreatDoor
open Go.RowKit
open Hy
theorem rD_U(x M RD S1 S2 TP SG C1 I:Int)(x0:0<=x)(x1:x<=4294967295)(m0:0<=M)(HRD:Hid (RD=x/128%32))(rd0:0<=RD)(rd1:RD<32)(HS1:Hid (S1=x/32768%32))(s10:0<=S1)(s11:S1<32)(HS2:Hid (S2=x/1048576%32))(s20:0<=S2)(s21:S2<32)(HTP:Hid (TP=x/2147483648))(tp0:0<=TP)(tp1:TP<2)(HSG:Hid (SG=sg x))(HC1:Hid (C1=x/1%4096))(c0:0<=C1)(c1:C1<4096)(g0:-2147483648<=SG-C1)(g1:SG-C1<=2147483647)(HI:Hid (I=SG-C1))
  (hform:∀w,Calls prog 53 #[.int .u32 x] w fun e w'=>e=.returned (.tuple #[.int .i64 M,.int .u8 85])/\Below w.heap.size w w') (w:World):
  Calls prog 26 #[.int .u32 x] w fun e w'=>e=.returned (.tuple #[iv M RD 0 0 I,.bool true])/\Below w.heap.size w w':=by
 go_enter func26,ntmps26
 go_wp2_with fail
 refine(hform _).mono ?_
 rintro e w1 ⟨rfl,hk⟩
 clear hform
 obtain⟨r0,r1,r2,r3,r4,z,hs⟩:=za2 hk
 go_wp2_with fail
 refine(zd x 7 11 128 32 RD 7 5 x0 x1 (by omega) (by omega) (by omega) (by omega) rfl (by omega) (tw 7 128 (by decide)) rfl (by omega) (tw 5 32 (by decide)) HRD _).mono ?_
 rintro e w' ⟨rfl,rfl⟩
 go_wp2_with fail
 refine(zd x 15 19 32768 32 S1 15 5 x0 x1 (by omega) (by omega) (by omega) (by omega) rfl (by omega) (tw 15 32768 (by decide)) rfl (by omega) (tw 5 32 (by decide)) HS1 _).mono ?_
 rintro e w' ⟨rfl,rfl⟩
 go_wp2_with fail
 refine(zd x 20 24 1048576 32 S2 20 5 x0 x1 (by omega) (by omega) (by omega) (by omega) rfl (by omega) (tw 20 1048576 (by decide)) rfl (by omega) (tw 5 32 (by decide)) HS2 _).mono ?_
 rintro e w' ⟨rfl,rfl⟩
 go_wp2_with fail
 refine(zF x 31 2147483648 TP 31 x0 x1 rfl (by omega) (tw 31 2147483648 (by decide)) HTP _).mono ?_
 rintro e w' ⟨rfl,rfl⟩
 go_wp2_with fail
 refine(zg1 x SG x0 x1 HSG _).mono ?_
 rintro e w' ⟨rfl,rfl⟩
 go_wp2_with fail
 refine(zd x 0 11 1 4096 C1 0 12 x0 x1 (by omega) (by omega) (by omega) (by omega) rfl (by omega) (tw 0 1 (by decide)) rfl (by omega) (tw 12 4096 (by decide)) HC1 _).mono ?_
 rintro e w' ⟨rfl,rfl⟩
 go_wp2_with fail
 refine bodyPost_ret (v:=.tuple #[iv M RD 0 0 I,.bool true]) ?_ rfl ⟨rfl,?_⟩
 ·simp[results,results26,go_sem,hs,r0,r1,r2,r3,r4,HI.out]
 ·have hbase:Below w.heap.size w w1:=((Below.refl _ _).alloc (Nat.le_refl _) _).trans (hk.mono (by simp))
  repeat(first|exact hbase|refine Below.setCell ?_ (by simp;try omega) _|refine Below.alloc ?_ (by simp;omega) _)
theorem rD_J(x M RD S1 S2 TP C1 C2 C3 I:Int)(x0:0<=x)(x1:x<=4294967295)(m0:0<=M)(HRD:Hid (RD=x/128%32))(rd0:0<=RD)(rd1:RD<32)(HS1:Hid (S1=x/32768%32))(s10:0<=S1)(s11:S1<32)(HS2:Hid (S2=x/1048576%32))(s20:0<=S2)(s21:S2<32)(HTP:Hid (TP=x/2147483648))(tp0:0<=TP)(tp1:TP<2)(HC1:Hid (C1=x/4096%256))(a0:0<=C1)(a1:C1<256)(HC2:Hid (C2=x/1048576%2))(b0:0<=C2)(b1:C2<2)(HC3:Hid (C3=x/2097152%1024))(c0:0<=C3)(c1:C3<1024)(HI:Hid (I=if TP*1048576+C1*4096+C2*2048+C3*2<1048576 then TP*1048576+C1*4096+C2*2048+C3*2 else TP*1048576+C1*4096+C2*2048+C3*2-2*1048576))
  (hform:∀w,Calls prog 53 #[.int .u32 x] w fun e w'=>e=.returned (.tuple #[.int .i64 M,.int .u8 74])/\Below w.heap.size w w') (w:World):
  Calls prog 26 #[.int .u32 x] w fun e w'=>e=.returned (.tuple #[iv M RD 0 0 I,.bool true])/\Below w.heap.size w w':=by
 go_enter func26,ntmps26
 go_wp2_with fail
 refine(hform _).mono ?_
 rintro e w1 ⟨rfl,hk⟩
 clear hform
 obtain⟨r0,r1,r2,r3,r4,z,hs⟩:=za2 hk
 go_wp2_with fail
 refine(zd x 7 11 128 32 RD 7 5 x0 x1 (by omega) (by omega) (by omega) (by omega) rfl (by omega) (tw 7 128 (by decide)) rfl (by omega) (tw 5 32 (by decide)) HRD _).mono ?_
 rintro e w' ⟨rfl,rfl⟩
 go_wp2_with fail
 refine(zd x 15 19 32768 32 S1 15 5 x0 x1 (by omega) (by omega) (by omega) (by omega) rfl (by omega) (tw 15 32768 (by decide)) rfl (by omega) (tw 5 32 (by decide)) HS1 _).mono ?_
 rintro e w' ⟨rfl,rfl⟩
 go_wp2_with fail
 refine(zd x 20 24 1048576 32 S2 20 5 x0 x1 (by omega) (by omega) (by omega) (by omega) rfl (by omega) (tw 20 1048576 (by decide)) rfl (by omega) (tw 5 32 (by decide)) HS2 _).mono ?_
 rintro e w' ⟨rfl,rfl⟩
 go_wp2_with fail
 refine(zF x 31 2147483648 TP 31 x0 x1 rfl (by omega) (tw 31 2147483648 (by decide)) HTP _).mono ?_
 rintro e w' ⟨rfl,rfl⟩
 go_wp2_with fail
 refine(zd x 12 19 4096 256 C1 12 8 x0 x1 (by omega) (by omega) (by omega) (by omega) rfl (by omega) (tw 12 4096 (by decide)) rfl (by omega) (tw 8 256 (by decide)) HC1 _).mono ?_
 rintro e w' ⟨rfl,rfl⟩
 go_wp2_with fail
 refine(zd x 20 20 1048576 2 C2 20 1 x0 x1 (by omega) (by omega) (by omega) (by omega) rfl (by omega) (tw 20 1048576 (by decide)) rfl (by omega) (tw 1 2 (by decide)) HC2 _).mono ?_
 rintro e w' ⟨rfl,rfl⟩
 go_wp2_with fail
 refine(zd x 21 30 2097152 1024 C3 21 10 x0 x1 (by omega) (by omega) (by omega) (by omega) rfl (by omega) (tw 21 2097152 (by decide)) rfl (by omega) (tw 10 1024 (by decide)) HC3 _).mono ?_
 rintro e w' ⟨rfl,rfl⟩
 go_wp2_with fail
 refine(jU _ 21 1048576 I 20 (by omega) (by omega) (by omega) (by omega) (by omega) rfl (tw 20 1048576 (by decide)) HI _).mono ?_
 rintro e w' ⟨rfl,rfl⟩
 go_wp2_with fail
 refine bodyPost_ret (v:=.tuple #[iv M RD 0 0 I,.bool true]) ?_ rfl ⟨rfl,?_⟩
 ·simp[results,results26,go_sem,hs,r0,r1,r2,r3,r4]
 ·have hbase:Below w.heap.size w w1:=((Below.refl _ _).alloc (Nat.le_refl _) _).trans (hk.mono (by simp))
  repeat(first|exact hbase|refine Below.setCell ?_ (by simp;try omega) _|refine Below.alloc ?_ (by simp;omega) _)
end Go.Proofs.YtpiohehijkpghabGreatDoor
