/- The document's reckoning of a word as an instruction, form by form. -/
import Derived.Test.YtpiohehijkpghabGreatDoorS12
import Derived.Test.YtpiohehijkpghabGreatDoorS04
set_option maxHeartbeats 1000000
set_option linter.unusedVariables false
open Go.Proofs.Tryz
namespace Go.Proofs.YtpiohehijkpghabGreatDoor
open Go.RowKit
open Hy
theorem vQ:∀m,m<47->1<=m->kb m%128=103->(kn m=1\/kn m=2\/kb m/4096%8=1)->False:=by decide
theorem vR:∀m,m<47->1<=m->kb m%128=103->(kn m=1\/kn m=2\/kb m/4096%8=2)->False:=by decide
theorem vS:∀m,m<47->1<=m->kb m%128=103->(kn m=1\/kn m=2\/kb m/4096%8=3)->False:=by decide
theorem vT:∀m,m<47->1<=m->kb m%128=103->(kn m=1\/kn m=2\/kb m/4096%8=4)->False:=by decide
theorem vU:∀m,m<47->1<=m->kb m%128=103->(kn m=1\/kn m=2\/kb m/4096%8=5)->False:=by decide
theorem vV:∀m,m<47->1<=m->kb m%128=103->(kn m=1\/kn m=2\/kb m/4096%8=6)->False:=by decide
theorem vW:∀m,m<47->1<=m->kb m%128=103->(kn m=1\/kn m=2\/kb m/4096%8=7)->False:=by decide
theorem zaN:∀m,m<47->1<=m->kb m%128=99->(kn m=1\/kn m=2\/kb m/4096%8=2)->False:=by decide
theorem zaO:∀m,m<47->1<=m->kb m%128=99->(kn m=1\/kn m=2\/kb m/4096%8=3)->False:=by decide
theorem zb0:∀m,m<47->1<=m->kb m%128=3->(kn m=1\/kn m=2\/kb m/4096%8=3)->False:=by decide
theorem zb1:∀m,m<47->1<=m->kb m%128=3->(kn m=1\/kn m=2\/kb m/4096%8=6)->False:=by decide
theorem zb2:∀m,m<47->1<=m->kb m%128=3->(kn m=1\/kn m=2\/kb m/4096%8=7)->False:=by decide
theorem zaP:∀m,m<47->1<=m->kb m%128=35->(kn m=1\/kn m=2\/kb m/4096%8=3)->False:=by decide
theorem zaQ:∀m,m<47->1<=m->kb m%128=35->(kn m=1\/kn m=2\/kb m/4096%8=4)->False:=by decide
theorem zaR:∀m,m<47->1<=m->kb m%128=35->(kn m=1\/kn m=2\/kb m/4096%8=5)->False:=by decide
theorem zaS:∀m,m<47->1<=m->kb m%128=35->(kn m=1\/kn m=2\/kb m/4096%8=6)->False:=by decide
theorem zaT:∀m,m<47->1<=m->kb m%128=35->(kn m=1\/kn m=2\/kb m/4096%8=7)->False:=by decide
theorem zaU:∀m,m<47->1<=m->kb m%128=15->(kn m=1\/kn m=2\/kb m/4096%8=1)->False:=by decide
theorem zaV:∀m,m<47->1<=m->kb m%128=15->(kn m=1\/kn m=2\/kb m/4096%8=2)->False:=by decide
theorem zaW:∀m,m<47->1<=m->kb m%128=15->(kn m=1\/kn m=2\/kb m/4096%8=3)->False:=by decide
theorem zaX:∀m,m<47->1<=m->kb m%128=15->(kn m=1\/kn m=2\/kb m/4096%8=4)->False:=by decide
theorem zaY:∀m,m<47->1<=m->kb m%128=15->(kn m=1\/kn m=2\/kb m/4096%8=5)->False:=by decide
theorem zaZ:∀m,m<47->1<=m->kb m%128=15->(kn m=1\/kn m=2\/kb m/4096%8=6)->False:=by decide
theorem za0:∀m,m<47->1<=m->kb m%128=15->(kn m=1\/kn m=2\/kb m/4096%8=7)->False:=by decide
theorem zb3:∀m,m<47->1<=m->kb m%128=19->(kn m=1\/kn m=2\/kb m/4096%8=1)->kn m=4/\(kb m/33554432=0):=by decide
theorem zpQ:∀m,m<47->1<=m->kb m%128=19->¬kn m=1/\¬kn m=2:=by decide
theorem n19b:∀m,m<47->1<=m->kb m%128=19->kb m/4096%8=5->kn m=4/\(kb m/33554432=0\/kb m/33554432=32):=by decide
theorem zb4(m:Nat)(m1:m<47)(m2:1<=m)(a:kb m%128=19)(b:kn m=1\/kn m=2\/kb m/4096%8=5):kn m=4/\(kb m/33554432=0\/kb m/33554432=32):=by
 have h:=zpQ m m1 m2 a
 rcases b with b|b|b
 ·exact absurd b h.1
 ·exact absurd b h.2
 ·exact n19b m m1 m2 a b
theorem zfw:∀m,m<47->1<=m->kb m%128=51->kn m=7:=by decide
theorem znV:∀m,m<47->1<=m->kb m%128=51->kb m/4096%8=1->¬kb m/33554432=32:=by decide
theorem vX(m:Nat)(m1:m<47)(m2:1<=m)(a:kb m%128=51)(b:kn m=1\/kn m=2\/kb m/4096%8=1)(c:kn m=4\/kn m=7->kb m/33554432=32):False:=by
 have h:=zfw m m1 m2 a
 rcases b with b|b|b
 ·omega
 ·omega
 ·exact znV m m1 m2 a b (c (.inr h))
theorem znW:∀m,m<47->1<=m->kb m%128=51->kb m/4096%8=2->¬kb m/33554432=32:=by decide
theorem vY(m:Nat)(m1:m<47)(m2:1<=m)(a:kb m%128=51)(b:kn m=1\/kn m=2\/kb m/4096%8=2)(c:kn m=4\/kn m=7->kb m/33554432=32):False:=by
 have h:=zfw m m1 m2 a
 rcases b with b|b|b
 ·omega
 ·omega
 ·exact znW m m1 m2 a b (c (.inr h))
theorem znX:∀m,m<47->1<=m->kb m%128=51->kb m/4096%8=3->¬kb m/33554432=32:=by decide
theorem vZ(m:Nat)(m1:m<47)(m2:1<=m)(a:kb m%128=51)(b:kn m=1\/kn m=2\/kb m/4096%8=3)(c:kn m=4\/kn m=7->kb m/33554432=32):False:=by
 have h:=zfw m m1 m2 a
 rcases b with b|b|b
 ·omega
 ·omega
 ·exact znX m m1 m2 a b (c (.inr h))
theorem znY:∀m,m<47->1<=m->kb m%128=51->kb m/4096%8=4->¬kb m/33554432=32:=by decide
theorem zaa(m:Nat)(m1:m<47)(m2:1<=m)(a:kb m%128=51)(b:kn m=1\/kn m=2\/kb m/4096%8=4)(c:kn m=4\/kn m=7->kb m/33554432=32):False:=by
 have h:=zfw m m1 m2 a
 rcases b with b|b|b
 ·omega
 ·omega
 ·exact znY m m1 m2 a b (c (.inr h))
theorem znZ:∀m,m<47->1<=m->kb m%128=51->kb m/4096%8=6->¬kb m/33554432=32:=by decide
theorem zab(m:Nat)(m1:m<47)(m2:1<=m)(a:kb m%128=51)(b:kn m=1\/kn m=2\/kb m/4096%8=6)(c:kn m=4\/kn m=7->kb m/33554432=32):False:=by
 have h:=zfw m m1 m2 a
 rcases b with b|b|b
 ·omega
 ·omega
 ·exact znZ m m1 m2 a b (c (.inr h))
theorem zn0:∀m,m<47->1<=m->kb m%128=51->kb m/4096%8=7->¬kb m/33554432=32:=by decide
theorem zac(m:Nat)(m1:m<47)(m2:1<=m)(a:kb m%128=51)(b:kn m=1\/kn m=2\/kb m/4096%8=7)(c:kn m=4\/kn m=7->kb m/33554432=32):False:=by
 have h:=zfw m m1 m2 a
 rcases b with b|b|b
 ·omega
 ·omega
 ·exact zn0 m m1 m2 a b (c (.inr h))
theorem zb5:∀m,m<47->1<=m->kb m%128=51->kn m=7/\(kb m/33554432=0\/kb m/33554432=32\/kb m/33554432=1):=by decide
theorem zb6:∀m,m<47->1<=m->kb m%128=115->False:=by decide
theorem za1:∀m,m<47->1<=m->kb m%128=55\/kb m%128=23\/kb m%128=111\/kb m%128=103\/kb m%128=99\/kb m%128=3\/kb m%128=35\/kb m%128=19\/kb m%128=51\/kb m%128=15:=by decide
theorem zb7(x:Int)(x0:0<=x)(x1:x<=4294967295)(w:World):
  Calls prog 53 #[.int .u32 x] w fun e w'=>(∃q l,e=.returned (.tuple #[.int .i64 q,.int .u8 l])/\told x q l)/\Below w.heap.size w w':=by
 obtain⟨L,hL⟩:∃L,L=x%128:=⟨_,rfl⟩
 obtain⟨D,hD⟩:∃D,D=x/4096%8:=⟨_,rfl⟩
 obtain⟨U,hU⟩:∃U,U=x/33554432:=⟨_,rfl⟩
 have HL:Hid (L=x/1%128):=by show _=_;omega
 have HD:Hid (D=x/4096%8):=hD
 have HU:Hid (U=x/33554432):=hU
 have x1':x<4294967296:=by omega
 have l0:0<=L:=by omega
 have l1:L<128:=by omega
 have d0:0<=D:=by omega
 have d1:D<8:=by omega
 have u0:0<=U:=by omega
 have u1:U<128:=by omega
 have hDc:D=0\/D=1\/D=2\/D=3\/D=4\/D=5\/D=6\/D=7:=by omega
 by_cases e55:L=55
 ·subst e55
  refine(zgW x D U x0 x1 HL HD HU d0 d1 u0 u1 w).mono fun e w' ⟨he,hb⟩=>⟨⟨_,_,he,?_⟩,hb⟩
  exact zk x x0 x1' _ _ _ hL hD hU 1 (by omega) (by omega) _ _ rfl rfl (by decide)
 by_cases e23:L=23
 ·subst e23
  refine(zgX x D U x0 x1 HL HD HU d0 d1 u0 u1 w).mono fun e w' ⟨he,hb⟩=>⟨⟨_,_,he,?_⟩,hb⟩
  exact zk x x0 x1' _ _ _ hL hD hU 2 (by omega) (by omega) _ _ rfl rfl (by decide)
 by_cases e111:L=111
 ·subst e111
  refine(zfm x D U x0 x1 HL HD HU d0 d1 u0 u1 w).mono fun e w' ⟨he,hb⟩=>⟨⟨_,_,he,?_⟩,hb⟩
  exact zk x x0 x1' _ _ _ hL hD hU 3 (by omega) (by omega) _ _ rfl rfl (by decide)
 by_cases e103:L=103
 ·subst e103
  obtain⟨q,HQ⟩:∃q,Hid (q=pk D (p64 #[.int .i64 0]) (p64 #[.int .i64 4]) 0 1):=⟨_,rfl⟩
  refine(zfn x D U q x0 x1 HL HD HU d0 d1 u0 u1 HQ w).mono fun e w' ⟨he,hb⟩=>⟨⟨_,_,he,?_⟩,hb⟩
  have hq:=HQ.out
  clear HQ HL HD HU he hb
  rcases hDc with rfl|rfl|rfl|rfl|rfl|rfl|rfl|rfl
  ·exact zk x x0 x1' _ _ _ hL hD hU 4 (by omega) (by omega) _ _ (hq.trans (by decide)) rfl (by decide)
  ·exact zB x x0 x1' _ _ _ hL hD hU _ _ (hq.trans (by decide)) (fun m m1 m2 a b c=>vQ m m1 m2 a b) (by omega) (by omega)
  ·exact zB x x0 x1' _ _ _ hL hD hU _ _ (hq.trans (by decide)) (fun m m1 m2 a b c=>vR m m1 m2 a b) (by omega) (by omega)
  ·exact zB x x0 x1' _ _ _ hL hD hU _ _ (hq.trans (by decide)) (fun m m1 m2 a b c=>vS m m1 m2 a b) (by omega) (by omega)
  ·exact zB x x0 x1' _ _ _ hL hD hU _ _ (hq.trans (by decide)) (fun m m1 m2 a b c=>vT m m1 m2 a b) (by omega) (by omega)
  ·exact zB x x0 x1' _ _ _ hL hD hU _ _ (hq.trans (by decide)) (fun m m1 m2 a b c=>vU m m1 m2 a b) (by omega) (by omega)
  ·exact zB x x0 x1' _ _ _ hL hD hU _ _ (hq.trans (by decide)) (fun m m1 m2 a b c=>vV m m1 m2 a b) (by omega) (by omega)
  ·exact zB x x0 x1' _ _ _ hL hD hU _ _ (hq.trans (by decide)) (fun m m1 m2 a b c=>vW m m1 m2 a b) (by omega) (by omega)
 by_cases e99:L=99
 ·subst e99
  obtain⟨q,HQ⟩:∃q,Hid (q=pk D (p64 #[.int .i64 0,.int .i64 1,.int .i64 4,.int .i64 5,.int .i64 6,.int .i64 7]) (p64 #[.int .i64 5,.int .i64 6,.int .i64 7,.int .i64 8,.int .i64 9,.int .i64 10]) 0 6):=⟨_,rfl⟩
  refine(zgY x D U q x0 x1 HL HD HU d0 d1 u0 u1 HQ w).mono fun e w' ⟨he,hb⟩=>⟨⟨_,_,he,?_⟩,hb⟩
  have hq:=HQ.out
  clear HQ HL HD HU he hb
  rcases hDc with rfl|rfl|rfl|rfl|rfl|rfl|rfl|rfl
  ·exact zk x x0 x1' _ _ _ hL hD hU 5 (by omega) (by omega) _ _ (hq.trans (by decide)) rfl (by decide)
  ·exact zk x x0 x1' _ _ _ hL hD hU 6 (by omega) (by omega) _ _ (hq.trans (by decide)) rfl (by decide)
  ·exact zB x x0 x1' _ _ _ hL hD hU _ _ (hq.trans (by decide)) (fun m m1 m2 a b c=>zaN m m1 m2 a b) (by omega) (by omega)
  ·exact zB x x0 x1' _ _ _ hL hD hU _ _ (hq.trans (by decide)) (fun m m1 m2 a b c=>zaO m m1 m2 a b) (by omega) (by omega)
  ·exact zk x x0 x1' _ _ _ hL hD hU 7 (by omega) (by omega) _ _ (hq.trans (by decide)) rfl (by decide)
  ·exact zk x x0 x1' _ _ _ hL hD hU 8 (by omega) (by omega) _ _ (hq.trans (by decide)) rfl (by decide)
  ·exact zk x x0 x1' _ _ _ hL hD hU 9 (by omega) (by omega) _ _ (hq.trans (by decide)) rfl (by decide)
  ·exact zk x x0 x1' _ _ _ hL hD hU 10 (by omega) (by omega) _ _ (hq.trans (by decide)) rfl (by decide)
 by_cases e3:L=3
 ·subst e3
  obtain⟨q,HQ⟩:∃q,Hid (q=pk D (p64 #[.int .i64 0,.int .i64 1,.int .i64 2,.int .i64 4,.int .i64 5]) (p64 #[.int .i64 11,.int .i64 12,.int .i64 13,.int .i64 14,.int .i64 15]) 0 5):=⟨_,rfl⟩
  refine(zjl x D U q x0 x1 HL HD HU d0 d1 u0 u1 HQ w).mono fun e w' ⟨he,hb⟩=>⟨⟨_,_,he,?_⟩,hb⟩
  have hq:=HQ.out
  clear HQ HL HD HU he hb
  rcases hDc with rfl|rfl|rfl|rfl|rfl|rfl|rfl|rfl
  ·exact zk x x0 x1' _ _ _ hL hD hU 11 (by omega) (by omega) _ _ (hq.trans (by decide)) rfl (by decide)
  ·exact zk x x0 x1' _ _ _ hL hD hU 12 (by omega) (by omega) _ _ (hq.trans (by decide)) rfl (by decide)
  ·exact zk x x0 x1' _ _ _ hL hD hU 13 (by omega) (by omega) _ _ (hq.trans (by decide)) rfl (by decide)
  ·exact zB x x0 x1' _ _ _ hL hD hU _ _ (hq.trans (by decide)) (fun m m1 m2 a b c=>zb0 m m1 m2 a b) (by omega) (by omega)
  ·exact zk x x0 x1' _ _ _ hL hD hU 14 (by omega) (by omega) _ _ (hq.trans (by decide)) rfl (by decide)
  ·exact zk x x0 x1' _ _ _ hL hD hU 15 (by omega) (by omega) _ _ (hq.trans (by decide)) rfl (by decide)
  ·exact zB x x0 x1' _ _ _ hL hD hU _ _ (hq.trans (by decide)) (fun m m1 m2 a b c=>zb1 m m1 m2 a b) (by omega) (by omega)
  ·exact zB x x0 x1' _ _ _ hL hD hU _ _ (hq.trans (by decide)) (fun m m1 m2 a b c=>zb2 m m1 m2 a b) (by omega) (by omega)
 by_cases e35:L=35
 ·subst e35
  obtain⟨q,HQ⟩:∃q,Hid (q=pk D (p64 #[.int .i64 0,.int .i64 1,.int .i64 2]) (p64 #[.int .i64 16,.int .i64 17,.int .i64 18]) 0 3):=⟨_,rfl⟩
  refine(zgZ x D U q x0 x1 HL HD HU d0 d1 u0 u1 HQ w).mono fun e w' ⟨he,hb⟩=>⟨⟨_,_,he,?_⟩,hb⟩
  have hq:=HQ.out
  clear HQ HL HD HU he hb
  rcases hDc with rfl|rfl|rfl|rfl|rfl|rfl|rfl|rfl
  ·exact zk x x0 x1' _ _ _ hL hD hU 16 (by omega) (by omega) _ _ (hq.trans (by decide)) rfl (by decide)
  ·exact zk x x0 x1' _ _ _ hL hD hU 17 (by omega) (by omega) _ _ (hq.trans (by decide)) rfl (by decide)
  ·exact zk x x0 x1' _ _ _ hL hD hU 18 (by omega) (by omega) _ _ (hq.trans (by decide)) rfl (by decide)
  ·exact zB x x0 x1' _ _ _ hL hD hU _ _ (hq.trans (by decide)) (fun m m1 m2 a b c=>zaP m m1 m2 a b) (by omega) (by omega)
  ·exact zB x x0 x1' _ _ _ hL hD hU _ _ (hq.trans (by decide)) (fun m m1 m2 a b c=>zaQ m m1 m2 a b) (by omega) (by omega)
  ·exact zB x x0 x1' _ _ _ hL hD hU _ _ (hq.trans (by decide)) (fun m m1 m2 a b c=>zaR m m1 m2 a b) (by omega) (by omega)
  ·exact zB x x0 x1' _ _ _ hL hD hU _ _ (hq.trans (by decide)) (fun m m1 m2 a b c=>zaS m m1 m2 a b) (by omega) (by omega)
  ·exact zB x x0 x1' _ _ _ hL hD hU _ _ (hq.trans (by decide)) (fun m m1 m2 a b c=>zaT m m1 m2 a b) (by omega) (by omega)
 by_cases e15:L=15
 ·subst e15
  obtain⟨q,HQ⟩:∃q,Hid (q=pk D (p64 #[.int .i64 0]) (p64 #[.int .i64 46]) 0 1):=⟨_,rfl⟩
  refine(zg0 x D U q x0 x1 HL HD HU d0 d1 u0 u1 HQ w).mono fun e w' ⟨he,hb⟩=>⟨⟨_,_,he,?_⟩,hb⟩
  have hq:=HQ.out
  clear HQ HL HD HU he hb
  rcases hDc with rfl|rfl|rfl|rfl|rfl|rfl|rfl|rfl
  ·exact zk x x0 x1' _ _ _ hL hD hU 46 (by omega) (by omega) _ _ (hq.trans (by decide)) rfl (by decide)
  ·exact zB x x0 x1' _ _ _ hL hD hU _ _ (hq.trans (by decide)) (fun m m1 m2 a b c=>zaU m m1 m2 a b) (by omega) (by omega)
  ·exact zB x x0 x1' _ _ _ hL hD hU _ _ (hq.trans (by decide)) (fun m m1 m2 a b c=>zaV m m1 m2 a b) (by omega) (by omega)
  ·exact zB x x0 x1' _ _ _ hL hD hU _ _ (hq.trans (by decide)) (fun m m1 m2 a b c=>zaW m m1 m2 a b) (by omega) (by omega)
  ·exact zB x x0 x1' _ _ _ hL hD hU _ _ (hq.trans (by decide)) (fun m m1 m2 a b c=>zaX m m1 m2 a b) (by omega) (by omega)
  ·exact zB x x0 x1' _ _ _ hL hD hU _ _ (hq.trans (by decide)) (fun m m1 m2 a b c=>zaY m m1 m2 a b) (by omega) (by omega)
  ·exact zB x x0 x1' _ _ _ hL hD hU _ _ (hq.trans (by decide)) (fun m m1 m2 a b c=>zaZ m m1 m2 a b) (by omega) (by omega)
  ·exact zB x x0 x1' _ _ _ hL hD hU _ _ (hq.trans (by decide)) (fun m m1 m2 a b c=>za0 m m1 m2 a b) (by omega) (by omega)
 by_cases e19:L=19
 ·subst e19
  by_cases dd1:D=1
  ·subst dd1
   obtain⟨q,HQ⟩:∃q,Hid (q=pk (8*U+1) (p64 #[.int .i64 1,.int .i64 5,.int .i64 261]) (p64 #[.int .i64 25,.int .i64 26,.int .i64 27]) 0 3):=⟨_,rfl⟩
   refine(zfo x U q x0 x1 HL HD HU u0 u1 HQ w).mono fun e w' ⟨he,hb⟩=>⟨⟨_,_,he,?_⟩,hb⟩
   have hq:=HQ.out
   clear HQ HL HD HU he hb
   by_cases uu0:U=0
   ·subst uu0
    exact zk x x0 x1' _ _ _ hL hD hU 25 (by omega) (by omega) _ _ (hq.trans (by decide)) rfl (by decide)
   have hn:pk (8*U+1) (p64 #[.int .i64 1,.int .i64 5,.int .i64 261]) (p64 #[.int .i64 25,.int .i64 26,.int .i64 27]) 0 3=-1:=by
    simp only[pk]
    rw[if_neg (by show¬(1:Int)=8*U+1;omega),if_neg (by show¬(5:Int)=8*U+1;omega),if_neg (by show¬(261:Int)=8*U+1;omega)]
   refine zB x x0 x1' _ _ _ hL hD hU _ _ (hq.trans hn) (fun m m1 m2 a b c=>?_) (by omega) (by omega)
   obtain⟨k4,hu⟩:=zb3 m m1 m2 a b
   have:=c (.inl k4)
   omega
  by_cases dd5:D=5
  ·subst dd5
   obtain⟨q,HQ⟩:∃q,Hid (q=pk (8*U+5) (p64 #[.int .i64 1,.int .i64 5,.int .i64 261]) (p64 #[.int .i64 25,.int .i64 26,.int .i64 27]) 0 3):=⟨_,rfl⟩
   refine(zfp x U q x0 x1 HL HD HU u0 u1 HQ w).mono fun e w' ⟨he,hb⟩=>⟨⟨_,_,he,?_⟩,hb⟩
   have hq:=HQ.out
   clear HQ HL HD HU he hb
   by_cases uu0:U=0
   ·subst uu0
    exact zk x x0 x1' _ _ _ hL hD hU 26 (by omega) (by omega) _ _ (hq.trans (by decide)) rfl (by decide)
   by_cases uu32:U=32
   ·subst uu32
    exact zk x x0 x1' _ _ _ hL hD hU 27 (by omega) (by omega) _ _ (hq.trans (by decide)) rfl (by decide)
   have hn:pk (8*U+5) (p64 #[.int .i64 1,.int .i64 5,.int .i64 261]) (p64 #[.int .i64 25,.int .i64 26,.int .i64 27]) 0 3=-1:=by
    simp only[pk]
    rw[if_neg (by show¬(1:Int)=8*U+5;omega),if_neg (by show¬(5:Int)=8*U+5;omega),if_neg (by show¬(261:Int)=8*U+5;omega)]
   refine zB x x0 x1' _ _ _ hL hD hU _ _ (hq.trans hn) (fun m m1 m2 a b c=>?_) (by omega) (by omega)
   obtain⟨k4,hu⟩:=zb4 m m1 m2 a b
   have:=c (.inl k4)
   omega
  obtain⟨q,HQ⟩:∃q,Hid (q=pk D (p64 #[.int .i64 0,.int .i64 2,.int .i64 3,.int .i64 4,.int .i64 6,.int .i64 7]) (p64 #[.int .i64 19,.int .i64 20,.int .i64 21,.int .i64 22,.int .i64 23,.int .i64 24]) 0 6):=⟨_,rfl⟩
  refine(zfq x D U q x0 x1 HL HD HU d0 d1 u0 u1 dd1 dd5 HQ w).mono fun e w' ⟨he,hb⟩=>⟨⟨_,_,he,?_⟩,hb⟩
  have hq:=HQ.out
  clear HQ HL HD HU he hb
  rcases hDc with rfl|rfl|rfl|rfl|rfl|rfl|rfl|rfl
  ·exact zk x x0 x1' _ _ _ hL hD hU 19 (by omega) (by omega) _ _ (hq.trans (by decide)) rfl (by decide)
  ·omega
  ·exact zk x x0 x1' _ _ _ hL hD hU 20 (by omega) (by omega) _ _ (hq.trans (by decide)) rfl (by decide)
  ·exact zk x x0 x1' _ _ _ hL hD hU 21 (by omega) (by omega) _ _ (hq.trans (by decide)) rfl (by decide)
  ·exact zk x x0 x1' _ _ _ hL hD hU 22 (by omega) (by omega) _ _ (hq.trans (by decide)) rfl (by decide)
  ·omega
  ·exact zk x x0 x1' _ _ _ hL hD hU 23 (by omega) (by omega) _ _ (hq.trans (by decide)) rfl (by decide)
  ·exact zk x x0 x1' _ _ _ hL hD hU 24 (by omega) (by omega) _ _ (hq.trans (by decide)) rfl (by decide)
 by_cases e51:L=51
 ·subst e51
  by_cases uu0:U=0
  ·subst uu0
   obtain⟨q,HQ⟩:∃q,Hid (q=pk D (p64 #[.int .i64 0,.int .i64 1,.int .i64 2,.int .i64 3,.int .i64 4,.int .i64 5,.int .i64 6,.int .i64 7]) (p64 #[.int .i64 28,.int .i64 30,.int .i64 31,.int .i64 32,.int .i64 33,.int .i64 34,.int .i64 36,.int .i64 37]) 0 8):=⟨_,rfl⟩
   refine(zfr x D q x0 x1 HL HD HU d0 d1 HQ w).mono fun e w' ⟨he,hb⟩=>⟨⟨_,_,he,?_⟩,hb⟩
   have hq:=HQ.out
   clear HQ HL HD HU he hb
   rcases hDc with rfl|rfl|rfl|rfl|rfl|rfl|rfl|rfl
   ·exact zk x x0 x1' _ _ _ hL hD hU 28 (by omega) (by omega) _ _ (hq.trans (by decide)) rfl (by decide)
   ·exact zk x x0 x1' _ _ _ hL hD hU 30 (by omega) (by omega) _ _ (hq.trans (by decide)) rfl (by decide)
   ·exact zk x x0 x1' _ _ _ hL hD hU 31 (by omega) (by omega) _ _ (hq.trans (by decide)) rfl (by decide)
   ·exact zk x x0 x1' _ _ _ hL hD hU 32 (by omega) (by omega) _ _ (hq.trans (by decide)) rfl (by decide)
   ·exact zk x x0 x1' _ _ _ hL hD hU 33 (by omega) (by omega) _ _ (hq.trans (by decide)) rfl (by decide)
   ·exact zk x x0 x1' _ _ _ hL hD hU 34 (by omega) (by omega) _ _ (hq.trans (by decide)) rfl (by decide)
   ·exact zk x x0 x1' _ _ _ hL hD hU 36 (by omega) (by omega) _ _ (hq.trans (by decide)) rfl (by decide)
   ·exact zk x x0 x1' _ _ _ hL hD hU 37 (by omega) (by omega) _ _ (hq.trans (by decide)) rfl (by decide)
  by_cases uu32:U=32
  ·subst uu32
   obtain⟨q,HQ⟩:∃q,Hid (q=pk D (p64 #[.int .i64 0,.int .i64 5]) (p64 #[.int .i64 29,.int .i64 35]) 0 2):=⟨_,rfl⟩
   refine(zfs x D q x0 x1 HL HD HU d0 d1 HQ w).mono fun e w' ⟨he,hb⟩=>⟨⟨_,_,he,?_⟩,hb⟩
   have hq:=HQ.out
   clear HQ HL HD HU he hb
   rcases hDc with rfl|rfl|rfl|rfl|rfl|rfl|rfl|rfl
   ·exact zk x x0 x1' _ _ _ hL hD hU 29 (by omega) (by omega) _ _ (hq.trans (by decide)) rfl (by decide)
   ·exact zB x x0 x1' _ _ _ hL hD hU _ _ (hq.trans (by decide)) (fun m m1 m2 a b c=>vX m m1 m2 a b c) (by omega) (by omega)
   ·exact zB x x0 x1' _ _ _ hL hD hU _ _ (hq.trans (by decide)) (fun m m1 m2 a b c=>vY m m1 m2 a b c) (by omega) (by omega)
   ·exact zB x x0 x1' _ _ _ hL hD hU _ _ (hq.trans (by decide)) (fun m m1 m2 a b c=>vZ m m1 m2 a b c) (by omega) (by omega)
   ·exact zB x x0 x1' _ _ _ hL hD hU _ _ (hq.trans (by decide)) (fun m m1 m2 a b c=>zaa m m1 m2 a b c) (by omega) (by omega)
   ·exact zk x x0 x1' _ _ _ hL hD hU 35 (by omega) (by omega) _ _ (hq.trans (by decide)) rfl (by decide)
   ·exact zB x x0 x1' _ _ _ hL hD hU _ _ (hq.trans (by decide)) (fun m m1 m2 a b c=>zab m m1 m2 a b c) (by omega) (by omega)
   ·exact zB x x0 x1' _ _ _ hL hD hU _ _ (hq.trans (by decide)) (fun m m1 m2 a b c=>zac m m1 m2 a b c) (by omega) (by omega)
  by_cases uu1:U=1
  ·subst uu1
   obtain⟨q,HQ⟩:∃q,Hid (q=pk D (p64 #[.int .i64 0,.int .i64 1,.int .i64 2,.int .i64 3,.int .i64 4,.int .i64 5,.int .i64 6,.int .i64 7]) (p64 #[.int .i64 38,.int .i64 39,.int .i64 40,.int .i64 41,.int .i64 42,.int .i64 43,.int .i64 44,.int .i64 45]) 0 8):=⟨_,rfl⟩
   refine(zft x D q x0 x1 HL HD HU d0 d1 HQ w).mono fun e w' ⟨he,hb⟩=>⟨⟨_,_,he,?_⟩,hb⟩
   have hq:=HQ.out
   clear HQ HL HD HU he hb
   rcases hDc with rfl|rfl|rfl|rfl|rfl|rfl|rfl|rfl
   ·exact zk x x0 x1' _ _ _ hL hD hU 38 (by omega) (by omega) _ _ (hq.trans (by decide)) rfl (by decide)
   ·exact zk x x0 x1' _ _ _ hL hD hU 39 (by omega) (by omega) _ _ (hq.trans (by decide)) rfl (by decide)
   ·exact zk x x0 x1' _ _ _ hL hD hU 40 (by omega) (by omega) _ _ (hq.trans (by decide)) rfl (by decide)
   ·exact zk x x0 x1' _ _ _ hL hD hU 41 (by omega) (by omega) _ _ (hq.trans (by decide)) rfl (by decide)
   ·exact zk x x0 x1' _ _ _ hL hD hU 42 (by omega) (by omega) _ _ (hq.trans (by decide)) rfl (by decide)
   ·exact zk x x0 x1' _ _ _ hL hD hU 43 (by omega) (by omega) _ _ (hq.trans (by decide)) rfl (by decide)
   ·exact zk x x0 x1' _ _ _ hL hD hU 44 (by omega) (by omega) _ _ (hq.trans (by decide)) rfl (by decide)
   ·exact zk x x0 x1' _ _ _ hL hD hU 45 (by omega) (by omega) _ _ (hq.trans (by decide)) rfl (by decide)
  refine(zfu x D U x0 x1 HL HD HU d0 d1 u0 u1 uu0 uu32 uu1 w).mono fun e w' ⟨he,hb⟩=>⟨⟨_,_,he,?_⟩,hb⟩
  refine zB x x0 x1' _ _ _ hL hD hU _ _ rfl (fun m m1 m2 a b c=>?_) (by omega) (by omega)
  obtain⟨k7,hu⟩:=zb5 m m1 m2 a
  have:=c (.inr k7)
  omega
 by_cases e115:L=115
 ·subst e115
  obtain⟨q,HQ⟩:∃q,Hid (q=pk x (p64 #[.int .i64 115,.int .i64 1048691]) (p64 #[.int .i64 47,.int .i64 48]) 0 2):=⟨_,rfl⟩
  refine(zfv x D U q x0 x1 HL HD HU d0 d1 u0 u1 HQ w).mono fun e w' ⟨he,hb⟩=>⟨⟨_,_,he,?_⟩,hb⟩
  have hq:=HQ.out
  clear HQ HL HD HU he hb
  by_cases h47:x=115
  ·subst h47
   exact .inl ⟨47,by omega,by omega,hq.trans (by decide),by decide,by decide⟩
  by_cases h48:x=1048691
  ·subst h48
   exact .inl ⟨48,by omega,by omega,hq.trans (by decide),by decide,by decide⟩
  have hn:pk x (p64 #[.int .i64 115,.int .i64 1048691]) (p64 #[.int .i64 47,.int .i64 48]) 0 2=-1:=by
   simp only[pk]
   rw[if_neg (by show¬(115:Int)=x;omega),if_neg (by show¬(1048691:Int)=x;omega)]
  exact zB x x0 x1' _ _ _ hL hD hU _ _ (hq.trans hn) (fun m m1 m2 a b c=>zb6 m m1 m2 a) h47 h48
 refine(zdh x L D U x0 x1 HL HD HU l0 l1 e55 e23 e111 e103 e99 e3 e35 e19 e51 e15 e115 d0 d1 u0 u1 w).mono fun e w' ⟨he,hb⟩=>⟨⟨_,_,he,?_⟩,hb⟩
 refine zB x x0 x1' _ _ _ hL hD hU _ _ rfl (fun m m1 m2 a b c=>?_) (by omega) (by omega)
 have:=za1 m m1 m2
 omega
theorem zg1(x S:Int)(x0:0<=x)(x1:x<=4294967295)(HS:Hid (S=sg x))(w:World):
  Calls prog 55 #[.int .u32 x] w fun e w'=>e=.returned (.int .i64 S)/\w'=w:=by
 rw[HS.out]
 exact zl x x0 x1 w
theorem za2{w w1:World}(hk:Below (w.alloc (.cells #[.int .i64 0,.int .i64 0,.int .i64 0,.int .i64 0,.int .i32 0] 77)).heap.size (w.alloc (.cells #[.int .i64 0,.int .i64 0,.int .i64 0,.int .i64 0,.int .i32 0] 77)) w1):
  w1.cell? ⟨w.heap.size,0,none⟩=some (.int .i64 0)/\w1.cell? ⟨w.heap.size,1,none⟩=some (.int .i64 0)/\w1.cell? ⟨w.heap.size,2,none⟩=some (.int .i64 0)/\w1.cell? ⟨w.heap.size,3,none⟩=some (.int .i64 0)/\w1.cell? ⟨w.heap.size,4,none⟩=some (.int .i32 0)/\(∀j,w1.frozen? ⟨w.heap.size,j,none⟩=false)/\w.heap.size<w1.heap.size:=by
 obtain⟨hc,hf⟩:=bcell hk
 have hs:=hk.size
 simp at hs
 refine⟨?_,?_,?_,?_,?_,?_,by omega⟩
 ·rw[hc _ _ (by simp)];simp[go_sem]
 ·rw[hc _ _ (by simp)];simp[go_sem]
 ·rw[hc _ _ (by simp)];simp[go_sem]
 ·rw[hc _ _ (by simp)];simp[go_sem]
 ·rw[hc _ _ (by simp)];simp[go_sem]
 ·intro j;rw[hf _ _ (by simp)];simp[go_sem]
end Go.Proofs.YtpiohehijkpghabGreatDoor
