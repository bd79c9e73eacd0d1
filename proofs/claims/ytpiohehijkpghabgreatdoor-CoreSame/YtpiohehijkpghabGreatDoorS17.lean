/- The document's Decode and the program's Decode answer the same of every word. -/
import Derived.Test.YtpiohehijkpghabGreatDoorS16
import Derived.Test.YtpiohehijkpghabGreatDoorS15
import Derived.Test.YtpiohehijkpghabGreatDoorS14
set_option linter.unusedVariables false
open Go.Proofs.Tryz
namespace Go.Proofs.YtpiohehijkpghabGreatDoor
open Go.RowKit
open Hy
theorem zg2(x:Int)(x0:0<=x)(x1:x<=4294967295)(n:Nat)(n1:1<=n)(n2:n<=48)(hn:hit n x=true)(M l:Int)(HM:M=(n:Int))(hl:l=lett (kn n))(w:World):
  Calls prog 53 #[.int .u32 x] w fun e w'=>e=.returned (.tuple #[.int .i64 M,.int .u8 l])/\Below w.heap.size w w':=
 (zb7 x x0 x1 w).mono fun e w' ⟨⟨q,l',he,ht⟩,hb⟩=>by
  rcases ht with⟨m,m1,m2,hq,hm,hl'⟩|⟨_,hno⟩
  ·have:n=m:=zlC n m n1 n2 m1 m2 x x0 (by omega) hn hm
   subst this
   rw[he,hq,hl',HM,hl]
   exact⟨rfl,hb⟩
  ·rw[hno n n1 n2]at hn;cases hn
theorem zfx(x:Int)(x0:0<=x)(x1:x<=4294967295)(hf:∀m,1<=m->m<=48->hit m x=false)(w:World):
  Calls prog 53 #[.int .u32 x] w fun e w'=>(∃l,e=.returned (.tuple #[.int .i64 (-1),.int .u8 l]))/\Below w.heap.size w w':=
 (zb7 x x0 x1 w).mono fun e w' ⟨⟨q,l',he,ht⟩,hb⟩=>by
  rcases ht with⟨m,m1,m2,hq,hm,hl'⟩|⟨hq,hno⟩
  ·rw[hf m m1 m2]at hm;cases hm
  ·exact⟨⟨l',by rw[he,hq]⟩,hb⟩
theorem zb8(x:Int)(x0:0<=x)(x1:x<=4294967295)(hf:∀m,1<=m->m<=48->hit m x=false)(w:World):
  Calls prog 26 #[.int .u32 x] w fun e w'=>e=.returned (.tuple #[iv 0 0 0 0 0,.bool false])/\Below w.heap.size w w':=
 zlD x x0 x1 (zfx x x0 x1 hf) w
theorem zg3(x:Int)(n:Nat)(x0:0<=x)(x1:x<=4294967295)(n1:1<=n)(n2:n<=48)(hn:hit n x=true)
  (M R1 R2 R3 I:Int) (H:Hid (M=(n:Int)/\R1=rrg x 128 (fm (kn n) 1)/\R2=rrg x 32768 (fm (kn n) 2)/\R3=rrg x 1048576 (fm (kn n) 3)/\I=rim (fm (kn n)) x)) (w:World):
  Calls prog 26 #[.int .u32 x] w fun e w'=>e=.returned (.tuple #[iv M R1 R2 R3 I,.bool true])/\Below w.heap.size w w':=by
 obtain⟨h0,h1,h2,h3,h4⟩:=H.out
 clear H
 obtain⟨hF9,_,hF1⟩:=zgc n (by omega)
 have hF:=hF1 n1
 have x1':x<4294967296:=by omega
 have hf:=fun l hl=>zg2 x x0 x1 n n1 n2 hn M l h0 hl
 have m0:0<=M:=by omega
 obtain⟨RD,HRD⟩:∃r,Hid (r=x/128%32):=⟨_,rfl⟩
 obtain⟨S1,HS1⟩:∃r,Hid (r=x/32768%32):=⟨_,rfl⟩
 obtain⟨S2,HS2⟩:∃r,Hid (r=x/1048576%32):=⟨_,rfl⟩
 obtain⟨TP,HTP⟩:∃r,Hid (r=x/2147483648):=⟨_,rfl⟩
 have aRD:=HRD.out
 have aS1:=HS1.out
 have aS2:=HS2.out
 have aTP:=HTP.out
 rcases(by omega:kn n=1\/kn n=2\/kn n=3\/kn n=4\/kn n=5\/kn n=6\/kn n=7\/kn n=8)with e|e|e|e|e|e|e|e
 all_goals rw[e]at h1 h2 h3 h4 hf
 ·have e1:R1=RD:=h1.trans ((show _=_ from ze9 x x0 x1').trans aRD.symm)
  have e2:R2=0:=h2.trans (zaI x x0 x1')
  have e3:R3=0:=h3.trans (kV x x0 x1')
  rw[znD x x0 x1']at h4
  have e4:I=sg x-x/1%4096:=by rw[h4];unfold sx sg;split<;>split<;>omega
  have g:=zg x x0 x1
  have g0:-2147483648<=sg x-x/1%4096:=by unfold sg;split<;>omega
  rw[e1,e2,e3]
  exact rD_U x M RD S1 S2 TP (sg x) (x/1%4096) I x0 x1 m0 HRD (by omega) (by omega) HS1 (by omega) (by omega) HS2 (by omega) (by omega) HTP (by omega) (by omega) rfl rfl (by omega) (by omega) g0 (by omega) e4 (hf 85 (by decide)) w
 ·have e1:R1=RD:=h1.trans ((show _=_ from ze9 x x0 x1').trans aRD.symm)
  have e2:R2=0:=h2.trans (zaI x x0 x1')
  have e3:R3=0:=h3.trans (kV x x0 x1')
  rw[znE x x0 x1',show x/2147483648%2=TP by omega]at h4
  rw[e1,e2,e3]
  exact rD_J x M RD S1 S2 TP (x/4096%256) (x/1048576%2) (x/2097152%1024) I x0 x1 m0 HRD (by omega) (by omega) HS1 (by omega) (by omega) HS2 (by omega) (by omega) HTP (by omega) (by omega) rfl (by omega) (by omega) rfl (by omega) (by omega) rfl (by omega) (by omega) h4 (hf 74 (by decide)) w
 ·have e1:R1=RD:=h1.trans ((show _=_ from ze9 x x0 x1').trans aRD.symm)
  have e2:R2=S1:=h2.trans ((show _=_ from zan x x0 x1').trans aS1.symm)
  have e3:R3=0:=h3.trans (kV x x0 x1')
  rw[znF x x0 x1']at h4
  rw[e1,e2,e3]
  exact rD_I x M RD S1 S2 TP (x/1048576) I x0 x1 m0 HRD (by omega) (by omega) HS1 (by omega) (by omega) HS2 (by omega) (by omega) HTP (by omega) (by omega) rfl (by omega) (by omega) h4 (hf 73 (by decide)) w
 ·have e1:R1=RD:=h1.trans ((show _=_ from ze9 x x0 x1').trans aRD.symm)
  have e2:R2=S1:=h2.trans ((show _=_ from zan x x0 x1').trans aS1.symm)
  have e3:R3=0:=h3.trans (kV x x0 x1')
  rw[znG x x0 x1']at h4
  rw[e1,e2,e3,h4.trans aS2.symm]
  exact rD_H x M RD S1 S2 TP x0 x1 m0 HRD (by omega) (by omega) HS1 (by omega) (by omega) HS2 (by omega) (by omega) HTP (by omega) (by omega) (hf 72 (by decide)) w
 ·have e1:R1=0:=h1.trans (yR x x0 x1')
  have e2:R2=S1:=h2.trans ((show _=_ from zan x x0 x1').trans aS1.symm)
  have e3:R3=S2:=h3.trans ((show _=_ from zd1 x x0 x1').trans aS2.symm)
  rw[znH x x0 x1',show x/2147483648%2=TP by omega]at h4
  rw[e1,e2,e3]
  exact rD_B x M RD S1 S2 TP (x/128%2) (x/33554432%64) (x/256%16) I x0 x1 m0 HRD (by omega) (by omega) HS1 (by omega) (by omega) HS2 (by omega) (by omega) HTP (by omega) (by omega) rfl (by omega) (by omega) rfl (by omega) (by omega) rfl (by omega) (by omega) h4 (hf 66 (by decide)) w
 ·have e1:R1=0:=h1.trans (yR x x0 x1')
  have e2:R2=S1:=h2.trans ((show _=_ from zan x x0 x1').trans aS1.symm)
  have e3:R3=S2:=h3.trans ((show _=_ from zd1 x x0 x1').trans aS2.symm)
  rw[znI x x0 x1',<-aRD]at h4
  rw[e1,e2,e3]
  exact rD_S x M RD S1 S2 TP (x/33554432) I x0 x1 m0 HRD (by omega) (by omega) HS1 (by omega) (by omega) HS2 (by omega) (by omega) HTP (by omega) (by omega) rfl (by omega) (by omega) h4 (hf 83 (by decide)) w
 ·have e1:R1=RD:=h1.trans ((show _=_ from ze9 x x0 x1').trans aRD.symm)
  have e2:R2=S1:=h2.trans ((show _=_ from zan x x0 x1').trans aS1.symm)
  have e3:R3=S2:=h3.trans ((show _=_ from zd1 x x0 x1').trans aS2.symm)
  rw[znJ x x0 x1']at h4
  rw[e1,e2,e3,h4]
  exact rD_R x M RD S1 S2 TP x0 x1 m0 HRD (by omega) (by omega) HS1 (by omega) (by omega) HS2 (by omega) (by omega) HTP (by omega) (by omega) (hf 82 (by decide)) w
 ·have e1:R1=0:=h1.trans (yR x x0 x1')
  have e2:R2=0:=h2.trans (zaI x x0 x1')
  have e3:R3=0:=h3.trans (kV x x0 x1')
  rw[znK x x0 x1']at h4
  rw[e1,e2,e3,h4]
  exact rD_E x M x0 x1 m0 (hf 69 (by decide)) w
end Go.Proofs.YtpiohehijkpghabGreatDoor
