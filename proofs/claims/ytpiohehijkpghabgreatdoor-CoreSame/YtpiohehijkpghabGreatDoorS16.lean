/- The document's reckoning of a word that has no fields, and of one that is no instruction. -/
import Derived.Test.YtpiohehijkpghabGreatDoorS13
set_option maxHeartbeats 1000000
set_option linter.unusedVariables false
open Go.Proofs.Tryz
namespace Go.Proofs.YtpiohehijkpghabGreatDoor
open Go.RowKit
open Hy
theorem rD_S(x M RD S1 S2 TP C1 I:Int)(x0:0<=x)(x1:x<=4294967295)(m0:0<=M)(HRD:Hid (RD=x/128%32))(rd0:0<=RD)(rd1:RD<32)(HS1:Hid (S1=x/32768%32))(s10:0<=S1)(s11:S1<32)(HS2:Hid (S2=x/1048576%32))(s20:0<=S2)(s21:S2<32)(HTP:Hid (TP=x/2147483648))(tp0:0<=TP)(tp1:TP<2)(HC1:Hid (C1=x/33554432))(a0:0<=C1)(a1:C1<128)(HI:Hid (I=if C1*32+RD<2048 then C1*32+RD else C1*32+RD-2*2048))
  (hform:∀w,Calls prog 53 #[.int .u32 x] w fun e w'=>e=.returned (.tuple #[.int .i64 M,.int .u8 83])/\Below w.heap.size w w') (w:World):
  Calls prog 26 #[.int .u32 x] w fun e w'=>e=.returned (.tuple #[iv M 0 S1 S2 I,.bool true])/\Below w.heap.size w w':=by
 go_enter func26,ntmps26
 go_wp2_with fail
 refine(hform _).mono ?_
 rintro e w1 ⟨rfl,hk⟩
 clear hform
 obtain⟨r0,r1,r2,r3,r4,z,hs⟩:=za2 hk
 go_wp2_with fail
 refine(zd x 7 11 128 32 RD 7 5 x0 x1 (by omega) (by omega) (by omega) (by omega) rfl (by omega) (tw 7 128 (by decide)) rfl (by omega) (tw 5 32 (by decide)) HRD _).mono ?_
 rintro e w' ⟨rfl,rfl⟩
 go_wp2_with fail
 refine(zd x 15 19 32768 32 S1 15 5 x0 x1 (by omega) (by omega) (by omega) (by omega) rfl (by omega) (tw 15 32768 (by decide)) rfl (by omega) (tw 5 32 (by decide)) HS1 _).mono ?_
 rintro e w' ⟨rfl,rfl⟩
 go_wp2_with fail
 refine(zd x 20 24 1048576 32 S2 20 5 x0 x1 (by omega) (by omega) (by omega) (by omega) rfl (by omega) (tw 20 1048576 (by decide)) rfl (by omega) (tw 5 32 (by decide)) HS2 _).mono ?_
 rintro e w' ⟨rfl,rfl⟩
 go_wp2_with fail
 refine(zF x 31 2147483648 TP 31 x0 x1 rfl (by omega) (tw 31 2147483648 (by decide)) HTP _).mono ?_
 rintro e w' ⟨rfl,rfl⟩
 go_wp2_with fail
 refine(zF x 25 33554432 C1 25 x0 x1 rfl (by omega) (tw 25 33554432 (by decide)) HC1 _).mono ?_
 rintro e w' ⟨rfl,rfl⟩
 go_wp2_with fail
 refine(zd x 7 11 128 32 RD 7 5 x0 x1 (by omega) (by omega) (by omega) (by omega) rfl (by omega) (tw 7 128 (by decide)) rfl (by omega) (tw 5 32 (by decide)) HRD _).mono ?_
 rintro e w' ⟨rfl,rfl⟩
 go_wp2_with fail
 refine(jU _ 12 2048 I 11 (by omega) (by omega) (by omega) (by omega) (by omega) rfl (tw 11 2048 (by decide)) HI _).mono ?_
 rintro e w' ⟨rfl,rfl⟩
 go_wp2_with fail
 refine bodyPost_ret (v:=.tuple #[iv M 0 S1 S2 I,.bool true]) ?_ rfl ⟨rfl,?_⟩
 ·simp[results,results26,go_sem,hs,r0,r1,r2,r3,r4]
 ·have hbase:Below w.heap.size w w1:=((Below.refl _ _).alloc (Nat.le_refl _) _).trans (hk.mono (by simp))
  repeat(first|exact hbase|refine Below.setCell ?_ (by simp;try omega) _|refine Below.alloc ?_ (by simp;omega) _)
theorem rD_R(x M RD S1 S2 TP:Int)(x0:0<=x)(x1:x<=4294967295)(m0:0<=M)(HRD:Hid (RD=x/128%32))(rd0:0<=RD)(rd1:RD<32)(HS1:Hid (S1=x/32768%32))(s10:0<=S1)(s11:S1<32)(HS2:Hid (S2=x/1048576%32))(s20:0<=S2)(s21:S2<32)(HTP:Hid (TP=x/2147483648))(tp0:0<=TP)(tp1:TP<2)
  (hform:∀w,Calls prog 53 #[.int .u32 x] w fun e w'=>e=.returned (.tuple #[.int .i64 M,.int .u8 82])/\Below w.heap.size w w') (w:World):
  Calls prog 26 #[.int .u32 x] w fun e w'=>e=.returned (.tuple #[iv M RD S1 S2 0,.bool true])/\Below w.heap.size w w':=by
 go_enter func26,ntmps26
 go_wp2_with fail
 refine(hform _).mono ?_
 rintro e w1 ⟨rfl,hk⟩
 clear hform
 obtain⟨r0,r1,r2,r3,r4,z,hs⟩:=za2 hk
 go_wp2_with fail
 refine(zd x 7 11 128 32 RD 7 5 x0 x1 (by omega) (by omega) (by omega) (by omega) rfl (by omega) (tw 7 128 (by decide)) rfl (by omega) (tw 5 32 (by decide)) HRD _).mono ?_
 rintro e w' ⟨rfl,rfl⟩
 go_wp2_with fail
 refine(zd x 15 19 32768 32 S1 15 5 x0 x1 (by omega) (by omega) (by omega) (by omega) rfl (by omega) (tw 15 32768 (by decide)) rfl (by omega) (tw 5 32 (by decide)) HS1 _).mono ?_
 rintro e w' ⟨rfl,rfl⟩
 go_wp2_with fail
 refine(zd x 20 24 1048576 32 S2 20 5 x0 x1 (by omega) (by omega) (by omega) (by omega) rfl (by omega) (tw 20 1048576 (by decide)) rfl (by omega) (tw 5 32 (by decide)) HS2 _).mono ?_
 rintro e w' ⟨rfl,rfl⟩
 go_wp2_with fail
 refine(zF x 31 2147483648 TP 31 x0 x1 rfl (by omega) (tw 31 2147483648 (by decide)) HTP _).mono ?_
 rintro e w' ⟨rfl,rfl⟩
 go_wp2_with fail
 refine bodyPost_ret (v:=.tuple #[iv M RD S1 S2 0,.bool true]) ?_ rfl ⟨rfl,?_⟩
 ·simp[results,results26,go_sem,hs,r0,r1,r2,r3,r4]
 ·have hbase:Below w.heap.size w w1:=((Below.refl _ _).alloc (Nat.le_refl _) _).trans (hk.mono (by simp))
  repeat(first|exact hbase|refine Below.setCell ?_ (by simp;try omega) _|refine Below.alloc ?_ (by simp;omega) _)
theorem rD_E(x M:Int)(x0:0<=x)(x1:x<=4294967295)(m0:0<=M)
  (hform:∀w,Calls prog 53 #[.int .u32 x] w fun e w'=>e=.returned (.tuple #[.int .i64 M,.int .u8 69])/\Below w.heap.size w w') (w:World):
  Calls prog 26 #[.int .u32 x] w fun e w'=>e=.returned (.tuple #[iv M 0 0 0 0,.bool true])/\Below w.heap.size w w':=by
 go_enter func26,ntmps26
 go_wp2_with fail
 refine(hform _).mono ?_
 rintro e w1 ⟨rfl,hk⟩
 clear hform
 obtain⟨r0,r1,r2,r3,r4,z,hs⟩:=za2 hk
 go_wp2_with fail
 refine bodyPost_ret (v:=.tuple #[iv M 0 0 0 0,.bool true]) ?_ rfl ⟨rfl,?_⟩
 ·simp[results,results26,go_sem,hs,r0,r1,r2,r3,r4]
 ·have hbase:Below w.heap.size w w1:=((Below.refl _ _).alloc (Nat.le_refl _) _).trans (hk.mono (by simp))
  repeat(first|exact hbase|refine Below.setCell ?_ (by simp;try omega) _|refine Below.alloc ?_ (by simp;omega) _)
theorem zlD(x:Int)(x0:0<=x)(x1:x<=4294967295)
  (hform:∀w,Calls prog 53 #[.int .u32 x] w fun e w'=>(∃l,e=.returned (.tuple #[.int .i64 (-1),.int .u8 l]))/\Below w.heap.size w w') (w:World):
  Calls prog 26 #[.int .u32 x] w fun e w'=>e=.returned (.tuple #[iv 0 0 0 0 0,.bool false])/\Below w.heap.size w w':=by
 go_enter func26,ntmps26
 go_wp2_with fail
 refine(hform _).mono ?_
 rintro e w1 ⟨⟨l,rfl⟩,hk⟩
 clear hform
 obtain⟨r0,r1,r2,r3,r4,z,hs⟩:=za2 hk
 go_wp2_with fail
 refine bodyPost_ret (v:=.tuple #[iv 0 0 0 0 0,.bool false]) ?_ rfl ⟨rfl,?_⟩
 ·simp[results,results26,go_sem,r0,r1,r2,r3,r4]
 ·have hbase:Below w.heap.size w w1:=((Below.refl _ _).alloc (Nat.le_refl _) _).trans (hk.mono (by simp))
  repeat(first|exact hbase|refine Below.setCell ?_ (by simp;try omega) _|refine Below.alloc ?_ (by simp;omega) _)
end Go.Proofs.YtpiohehijkpghabGreatDoor
