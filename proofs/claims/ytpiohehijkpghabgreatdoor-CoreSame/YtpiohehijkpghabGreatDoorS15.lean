/- The document's reckoning of a word as an instruction of the form B. -/
import Derived.Test.YtpiohehijkpghabGreatDoorS13
set_option maxHeartbeats 1000000
set_option linter.unusedVariables false
open Go.Proofs.Tryz
namespace Go.Proofs.YtpiohehijkpghabGreatDoor
open Go.RowKit
open Hy
theorem rD_I(x M RD S1 S2 TP C1 I:Int)(x0:0<=x)(x1:x<=4294967295)(m0:0<=M)(HRD:Hid (RD=x/128%32))(rd0:0<=RD)(rd1:RD<32)(HS1:Hid (S1=x/32768%32))(s10:0<=S1)(s11:S1<32)(HS2:Hid (S2=x/1048576%32))(s20:0<=S2)(s21:S2<32)(HTP:Hid (TP=x/2147483648))(tp0:0<=TP)(tp1:TP<2)(HC1:Hid (C1=x/1048576))(a0:0<=C1)(a1:C1<4096)(HI:Hid (I=if C1<2048 then C1 else C1-2*2048))
  (hform:∀w,Calls prog 53 #[.int .u32 x] w fun e w'=>e=.returned (.tuple #[.int .i64 M,.int .u8 73])/\Below w.heap.size w w') (w:World):
  Calls prog 26 #[.int .u32 x] w fun e w'=>e=.returned (.tuple #[iv M RD S1 0 I,.bool true])/\Below w.heap.size w w':=by
 go_enter func26,ntmps26
 go_wp2_with fail
 refine(hform _).mono ?_
 rintro e w1 ⟨rfl,hk⟩
 clear hform
 obtain⟨r0,r1,r2,r3,r4,z,hs⟩:=za2 hk
 go_wp2_with fail
 refine(zd x 7 11 128 32 RD 7 5 x0 x1 (by omega) (by omega) (by omega) (by omega) rfl (by omega) (tw 7 128 (by decide)) rfl (by omega) (tw 5 32 (by decide)) HRD _).mono ?_
 rintro e w' ⟨rfl,rfl⟩
 go_wp2_with fail
 refine(zd x 15 19 32768 32 S1 15 5 x0 x1 (by omega) (by omega) (by omega) (by omega) rfl (by omega) (tw 15 32768 (by decide)) rfl (by omega) (tw 5 32 (by decide)) HS1 _).mono ?_
 rintro e w' ⟨rfl,rfl⟩
 go_wp2_with fail
 refine(zd x 20 24 1048576 32 S2 20 5 x0 x1 (by omega) (by omega) (by omega) (by omega) rfl (by omega) (tw 20 1048576 (by decide)) rfl (by omega) (tw 5 32 (by decide)) HS2 _).mono ?_
 rintro e w' ⟨rfl,rfl⟩
 go_wp2_with fail
 refine(zF x 31 2147483648 TP 31 x0 x1 rfl (by omega) (tw 31 2147483648 (by decide)) HTP _).mono ?_
 rintro e w' ⟨rfl,rfl⟩
 go_wp2_with fail
 refine(zF x 20 1048576 C1 20 x0 x1 rfl (by omega) (tw 20 1048576 (by decide)) HC1 _).mono ?_
 rintro e w' ⟨rfl,rfl⟩
 go_wp2_with fail
 refine(jU _ 12 2048 I 11 (by omega) (by omega) (by omega) (by omega) (by omega) rfl (tw 11 2048 (by decide)) HI _).mono ?_
 rintro e w' ⟨rfl,rfl⟩
 go_wp2_with fail
 refine bodyPost_ret (v:=.tuple #[iv M RD S1 0 I,.bool true]) ?_ rfl ⟨rfl,?_⟩
 ·simp[results,results26,go_sem,hs,r0,r1,r2,r3,r4]
 ·have hbase:Below w.heap.size w w1:=((Below.refl _ _).alloc (Nat.le_refl _) _).trans (hk.mono (by simp))
  repeat(first|exact hbase|refine Below.setCell ?_ (by simp;try omega) _|refine Below.alloc ?_ (by simp;omega) _)
theorem rD_H(x M RD S1 S2 TP:Int)(x0:0<=x)(x1:x<=4294967295)(m0:0<=M)(HRD:Hid (RD=x/128%32))(rd0:0<=RD)(rd1:RD<32)(HS1:Hid (S1=x/32768%32))(s10:0<=S1)(s11:S1<32)(HS2:Hid (S2=x/1048576%32))(s20:0<=S2)(s21:S2<32)(HTP:Hid (TP=x/2147483648))(tp0:0<=TP)(tp1:TP<2)
  (hform:∀w,Calls prog 53 #[.int .u32 x] w fun e w'=>e=.returned (.tuple #[.int .i64 M,.int .u8 72])/\Below w.heap.size w w') (w:World):
  Calls prog 26 #[.int .u32 x] w fun e w'=>e=.returned (.tuple #[iv M RD S1 0 S2,.bool true])/\Below w.heap.size w w':=by
 go_enter func26,ntmps26
 go_wp2_with fail
 refine(hform _).mono ?_
 rintro e w1 ⟨rfl,hk⟩
 clear hform
 obtain⟨r0,r1,r2,r3,r4,z,hs⟩:=za2 hk
 go_wp2_with fail
 refine(zd x 7 11 128 32 RD 7 5 x0 x1 (by omega) (by omega) (by omega) (by omega) rfl (by omega) (tw 7 128 (by decide)) rfl (by omega) (tw 5 32 (by decide)) HRD _).mono ?_
 rintro e w' ⟨rfl,rfl⟩
 go_wp2_with fail
 refine(zd x 15 19 32768 32 S1 15 5 x0 x1 (by omega) (by omega) (by omega) (by omega) rfl (by omega) (tw 15 32768 (by decide)) rfl (by omega) (tw 5 32 (by decide)) HS1 _).mono ?_
 rintro e w' ⟨rfl,rfl⟩
 go_wp2_with fail
 refine(zd x 20 24 1048576 32 S2 20 5 x0 x1 (by omega) (by omega) (by omega) (by omega) rfl (by omega) (tw 20 1048576 (by decide)) rfl (by omega) (tw 5 32 (by decide)) HS2 _).mono ?_
 rintro e w' ⟨rfl,rfl⟩
 go_wp2_with fail
 refine(zF x 31 2147483648 TP 31 x0 x1 rfl (by omega) (tw 31 2147483648 (by decide)) HTP _).mono ?_
 rintro e w' ⟨rfl,rfl⟩
 go_wp2_with fail
 refine bodyPost_ret (v:=.tuple #[iv M RD S1 0 S2,.bool true]) ?_ rfl ⟨rfl,?_⟩
 ·simp[results,results26,go_sem,hs,r0,r1,r2,r3,r4]
 ·have hbase:Below w.heap.size w w1:=((Below.refl _ _).alloc (Nat.le_refl _) _).trans (hk.mono (by simp))
  repeat(first|exact hbase|refine Below.setCell ?_ (by simp;try omega) _|refine Below.alloc ?_ (by simp;omega) _)
theorem rD_B(x M RD S1 S2 TP C1 C2 C3 I:Int)(x0:0<=x)(x1:x<=4294967295)(m0:0<=M)(HRD:Hid (RD=x/128%32))(rd0:0<=RD)(rd1:RD<32)(HS1:Hid (S1=x/32768%32))(s10:0<=S1)(s11:S1<32)(HS2:Hid (S2=x/1048576%32))(s20:0<=S2)(s21:S2<32)(HTP:Hid (TP=x/2147483648))(tp0:0<=TP)(tp1:TP<2)(HC1:Hid (C1=x/128%2))(a0:0<=C1)(a1:C1<2)(HC2:Hid (C2=x/33554432%64))(b0:0<=C2)(b1:C2<64)(HC3:Hid (C3=x/256%16))(c0:0<=C3)(c1:C3<16)(HI:Hid (I=if TP*4096+C1*2048+C2*32+C3*2<4096 then TP*4096+C1*2048+C2*32+C3*2 else TP*4096+C1*2048+C2*32+C3*2-2*4096))
  (hform:∀w,Calls prog 53 #[.int .u32 x] w fun e w'=>e=.returned (.tuple #[.int .i64 M,.int .u8 66])/\Below w.heap.size w w') (w:World):
  Calls prog 26 #[.int .u32 x] w fun e w'=>e=.returned (.tuple #[iv M 0 S1 S2 I,.bool true])/\Below w.heap.size w w':=by
 go_enter func26,ntmps26
 go_wp2_with fail
 refine(hform _).mono ?_
 rintro e w1 ⟨rfl,hk⟩
 clear hform
 obtain⟨r0,r1,r2,r3,r4,z,hs⟩:=za2 hk
 go_wp2_with fail
 refine(zd x 7 11 128 32 RD 7 5 x0 x1 (by omega) (by omega) (by omega) (by omega) rfl (by omega) (tw 7 128 (by decide)) rfl (by omega) (tw 5 32 (by decide)) HRD _).mono ?_
 rintro e w' ⟨rfl,rfl⟩
 go_wp2_with fail
 refine(zd x 15 19 32768 32 S1 15 5 x0 x1 (by omega) (by omega) (by omega) (by omega) rfl (by omega) (tw 15 32768 (by decide)) rfl (by omega) (tw 5 32 (by decide)) HS1 _).mono ?_
 rintro e w' ⟨rfl,rfl⟩
 go_wp2_with fail
 refine(zd x 20 24 1048576 32 S2 20 5 x0 x1 (by omega) (by omega) (by omega) (by omega) rfl (by omega) (tw 20 1048576 (by decide)) rfl (by omega) (tw 5 32 (by decide)) HS2 _).mono ?_
 rintro e w' ⟨rfl,rfl⟩
 go_wp2_with fail
 refine(zF x 31 2147483648 TP 31 x0 x1 rfl (by omega) (tw 31 2147483648 (by decide)) HTP _).mono ?_
 rintro e w' ⟨rfl,rfl⟩
 go_wp2_with fail
 refine(zd x 7 7 128 2 C1 7 1 x0 x1 (by omega) (by omega) (by omega) (by omega) rfl (by omega) (tw 7 128 (by decide)) rfl (by omega) (tw 1 2 (by decide)) HC1 _).mono ?_
 rintro e w' ⟨rfl,rfl⟩
 go_wp2_with fail
 refine(zd x 25 30 33554432 64 C2 25 6 x0 x1 (by omega) (by omega) (by omega) (by omega) rfl (by omega) (tw 25 33554432 (by decide)) rfl (by omega) (tw 6 64 (by decide)) HC2 _).mono ?_
 rintro e w' ⟨rfl,rfl⟩
 go_wp2_with fail
 refine(zd x 8 11 256 16 C3 8 4 x0 x1 (by omega) (by omega) (by omega) (by omega) rfl (by omega) (tw 8 256 (by decide)) rfl (by omega) (tw 4 16 (by decide)) HC3 _).mono ?_
 rintro e w' ⟨rfl,rfl⟩
 go_wp2_with fail
 refine(jU _ 13 4096 I 12 (by omega) (by omega) (by omega) (by omega) (by omega) rfl (tw 12 4096 (by decide)) HI _).mono ?_
 rintro e w' ⟨rfl,rfl⟩
 go_wp2_with fail
 refine bodyPost_ret (v:=.tuple #[iv M 0 S1 S2 I,.bool true]) ?_ rfl ⟨rfl,?_⟩
 ·simp[results,results26,go_sem,hs,r0,r1,r2,r3,r4]
 ·have hbase:Below w.heap.size w w1:=((Below.refl _ _).alloc (Nat.le_refl _) _).trans (hk.mono (by simp))
  repeat(first|exact hbase|refine Below.setCell ?_ (by simp;try omega) _|refine Below.alloc ?_ (by simp;omega) _)
end Go.Proofs.YtpiohehijkpghabGreatDoor
