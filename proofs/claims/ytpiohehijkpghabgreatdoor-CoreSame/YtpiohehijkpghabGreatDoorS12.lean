/- What the document tells of a word, and what the program's table tells of it, are the same. Nothing of the program is named here. -/
import Derived.Test.YtpiohehijkpghabGreatDoorS02
import Derived.Test.YtpiohehijkpghabGreatDoorS01
import Derived.Test.YtpiohehijkpghabGreatDoorS04
set_option linter.unusedVariables false
open Go.Proofs.Tryz
namespace Go.Proofs.YtpiohehijkpghabGreatDoor
open Go.RowKit
open Hy
theorem km(a P:Int)(n:Nat)(ha:Hid (a=(n:Int)))(hn:n<=32)(hP:Hid (P=two n))(w:World):
  Calls prog 32 #[.int .i64 a] w fun e w'=>e=.returned (.int .i64 P)/\w'=w:=by
 rw[ha.out,hP.out]
 exact qC n hn w
theorem zF(x a P q:Int)(n:Nat)(x0:0<=x)(x1:x<=4294967295)(ha:Hid (a=(n:Int)))(hn:n<=32)(hP:Hid (P=two n))(hq:Hid (q=x/P))(w:World):
  Calls prog 54 #[.int .u32 x,.int .i64 a,.int .i64 31] w fun e w'=>e=.returned (.int .i64 q)/\w'=w:=by
 have p0:0<P:=by rw[hP.out];exact qU n
 have p1:P<=4294967296:=by rw[hP.out];exact xZ n hn
 go_enter func54,ntmps54
 go_wp2_with(go_at_call 32;refine(km _ P n ha hn hP _).mono ?_;rintro e w' ⟨rfl,rfl⟩)
 go_ret
 exact⟨zv hq.out.symm,rfl⟩
theorem zd(x a b P R q:Int)(n m:Nat)(x0:0<=x)(x1:x<=4294967295)(a0:0<=a)(a1:a<=31)(b0:0<=b)(hb:b<31)(ha:Hid (a=(n:Int)))(hn:n<=32)(hP:Hid (P=two n))(hm:Hid (b-a+1=(m:Int)))(hm2:m<=32)(hR:Hid (R=two m))(hq:Hid (q=x/P%R))(w:World):
  Calls prog 54 #[.int .u32 x,.int .i64 a,.int .i64 b] w fun e w'=>e=.returned (.int .i64 q)/\w'=w:=by
 have p0:0<P:=by rw[hP.out];exact qU n
 have p1:P<=4294967296:=by rw[hP.out];exact xZ n hn
 have r0:0<R:=by rw[hR.out];exact qU m
 have r1:R<=4294967296:=by rw[hR.out];exact xZ m hm2
 have hb31:¬b=31:=by omega
 have d0:0<=x/P:=Int.ediv_nonneg x0 (by omega)
 go_enter func54,ntmps54
 go_wp2_with fail
 refine(km _ P n ha hn hP _).mono ?_
 rintro e w' ⟨rfl,rfl⟩
 go_wp2_with fail
 refine(km _ R m hm hm2 hR _).mono ?_
 rintro e w' ⟨rfl,rfl⟩
 go_wp2_with fail
 go_ret
 exact⟨zv hq.out.symm,rfl⟩
theorem jU(v k P q:Int)(n:Nat)(v0:0<=v)(v1:v<P+P)(k0:1<=k)(k1:k<=32)(hn:n<=31)(hk:Hid (k-1=(n:Int)))(hP:Hid (P=two n))(hq:Hid (q=if v<P then v else v-2*P))(w:World):
  Calls prog 56 #[.int .i64 v,.int .i64 k] w fun e w'=>e=.returned (.int .i32 q)/\w'=w:=by
 have p0:0<P:=by rw[hP.out];exact qU n
 have p1:P<=2147483648:=by rw[hP.out];have:=zdV (show n<=31 from hn);have e:two 31=2147483648:=(by decide);omega
 by_cases h:P<=v
 ·go_enter func56,ntmps56
  go_wp2_with(go_at_call 32;refine(km _ P n hk (by omega) hP _).mono ?_;rintro e w' ⟨rfl,rfl⟩)
  go_ret
  exact⟨zv (by rw[hq.out,if_neg (by omega)]),rfl⟩
 ·go_enter func56,ntmps56
  go_wp2_with(go_at_call 32;refine(km _ P n hk (by omega) hP _).mono ?_;rintro e w' ⟨rfl,rfl⟩)
  go_ret
  exact⟨zv (by rw[hq.out,if_pos (by omega)]),rfl⟩
def p64(cs:Array Value)(j:Nat):Int:=match cs[j]? with
 |some (.int .i64 v)=>v
 |_=>0
def zgV(cs:Array Value):Nat->Bool
 |0=>true
 |n+1=>(match cs[n]? with
  |some (.int .i64 _)=>true
  |_=>false)&&zgV cs n
theorem zaM(cs:Array Value):∀n,zgV cs n=true->∀j,j<n->cs[j]?=some (.int .i64 (p64 cs j))
 |0,_,j,h=>by omega
 |n+1,hk,j,h=>by
  simp only[zgV,Bool.and_eq_true]at hk
  by_cases e:j=n
  ·subst e
   have h1:=hk.1
   unfold p64
   split at h1
   ·rename_i v hv;rw[hv]
   ·cases h1
  ·exact zaM cs n hk.2 j (by omega)
def pk(n:Int)(A O:Nat->Int):Nat->Nat->Int
 |_,0=>-1
 |i,f+1=>if A i=n then O i else pk n A O (i+1) f
theorem zjk(n:Int)(k:Nat)(hk:k<=100)(A O:Nat->Int)(g1 g2:Nat)(w:World)
  (ha:∀j,j<k->w.cell? ⟨g1,j,none⟩=some (.int .i64 (A j))) (ho:∀j,j<k->w.cell? ⟨g2,j,none⟩=some (.int .i64 (O j))):
  Calls prog 83 #[.int .i64 n,.slice (some ⟨g1,0,none⟩) k k,.slice (some ⟨g2,0,none⟩) k k] w fun e w'=>e=.returned (.int .i64 (pk n A O 0 k))/\w'=w:=by
 go_enter func83,ntmps83
 go_wp2
 go_loop [7] (fun i=>∃j:Nat,j<=k/\i=.int .i64 j/\pk n A O 0 k=pk n A O j (k-j)) (fun i=>k-(intOf i).toNat)
 case atStart=>exact⟨0,Nat.zero_le _,rfl,rfl⟩
 case round=>
  obtain⟨j,hj,rfl,hp⟩:=hrel
  have HP:Hid (pk n A O 0 k=pk n A O j (k-j)):=hp
  clear hp
  by_cases hlt:j<k
  ·have a1:=ha j hlt
   have o1:=ho j hlt
   clear ha ho
   obtain⟨a,hA⟩:∃a,a=A j:=⟨_,rfl⟩
   obtain⟨o,hO⟩:∃o,o=O j:=⟨_,rfl⟩
   rw[<-hA]at a1
   rw[<-hO]at o1
   have HA:Hid (a=A j):=hA
   have HO:Hid (o=O j):=hO
   clear hA hO
   have HS:Hid (pk n A O 0 k=if A j=n then O j else pk n A O (j+1) (k-(j+1))):=by
    show _=_
    rw[HP.out,show k-j=(k-(j+1))+1 by omega,pk]
   clear HP
   by_cases he:a=n
   ·go_wp2
    go_ret
    exact⟨zv (by rw[HS.out,if_pos (HA.out▸he),HO.out]),rfl⟩
   ·go_wp2
    go_round
    case rel=>exact⟨j+1,by omega,by go_num,by rw[HS.out,if_neg (fun g=>he (HA.out.trans g))]⟩
    case measure=>simp[intOf];omega
  ·clear ha ho
   go_wp2
   go_ret
   exact⟨zv (by rw[HP.out,show k-j=0 by omega];rfl),rfl⟩
theorem xf(n q:Int)(A O:Array Value)(t1 t2:TypeId)(k g1 g2:Nat)(w:World)(h1:g1=w.heap.size)(h2:g2=w.heap.size+1)(hk:k<=100)(ca:zgV A k=true)(co:zgV O k=true)
  (hq:Hid (q=pk n (p64 A) (p64 O) 0 k)):
  Calls prog 83 #[.int .i64 n,.slice (some ⟨g1,0,none⟩) k k,.slice (some ⟨g2,0,none⟩) k k] ((w.alloc (.cells A t1)).alloc (.cells O t2)) fun e w'=>e=.returned (.int .i64 q)/\Below w.heap.size w w':=by
 subst h1 h2
 rw[hq.out]
 refine(zjk n k hk (p64 A) (p64 O) _ _ _ ?_ ?_).mono fun e w' ⟨he,hw⟩=>⟨he,hw▸((Below.refl _ _).alloc (Nat.le_refl _) _).alloc (by simp) _⟩
 ·intro j hj
  rw[World.cell?_alloc_past _ _ _ (by simp),World.cell?_alloc_at _ _ _ _ rfl]
  exact zaM A k ca j hj
 ·intro j hj
  rw[World.cell?_alloc_at _ _ _ _ (by simp)]
  exact zaM O k co j hj
theorem tw(n:Nat)(v:Int)(h:v=two n):Hid (v=two n):=h
theorem zgW(x D U:Int)(x0:0<=x)(x1:x<=4294967295)(HL:Hid ((55:Int)=x/1%128))(HD:Hid ((D:Int)=x/4096%8))(HU:Hid ((U:Int)=x/33554432))(d0:0<=D)(d1:D<8)(u0:0<=U)(u1:U<128)(w:World):
  Calls prog 53 #[.int .u32 x] w fun e w'=>e=.returned (.tuple #[.int .i64 (1),.int .u8 85])/\Below w.heap.size w w':=by
 go_enter func53,ntmps53
 go_wp2_with fail
 refine(zd x 0 6 1 128 55 0 7 x0 x1 (by omega) (by omega) (by omega) (by omega) rfl (by omega) (tw 0 1 (by decide)) rfl (by omega) (tw 7 128 (by decide)) HL _).mono ?_
 rintro e w' ⟨rfl,rfl⟩
 go_wp2_with fail
 refine(zd x 12 14 4096 8 D 12 3 x0 x1 (by omega) (by omega) (by omega) (by omega) rfl (by omega) (tw 12 4096 (by decide)) rfl (by omega) (tw 3 8 (by decide)) HD _).mono ?_
 rintro e w' ⟨rfl,rfl⟩
 go_wp2_with fail
 refine(zF x 25 33554432 U 25 x0 x1 rfl (by omega) (tw 25 33554432 (by decide)) HU _).mono ?_
 rintro e w' ⟨rfl,rfl⟩
 go_wp2_with fail
 go_ret2
 exact⟨rfl,Below.refl _ _⟩
theorem zgX(x D U:Int)(x0:0<=x)(x1:x<=4294967295)(HL:Hid ((23:Int)=x/1%128))(HD:Hid ((D:Int)=x/4096%8))(HU:Hid ((U:Int)=x/33554432))(d0:0<=D)(d1:D<8)(u0:0<=U)(u1:U<128)(w:World):
  Calls prog 53 #[.int .u32 x] w fun e w'=>e=.returned (.tuple #[.int .i64 (2),.int .u8 85])/\Below w.heap.size w w':=by
 go_enter func53,ntmps53
 go_wp2_with fail
 refine(zd x 0 6 1 128 23 0 7 x0 x1 (by omega) (by omega) (by omega) (by omega) rfl (by omega) (tw 0 1 (by decide)) rfl (by omega) (tw 7 128 (by decide)) HL _).mono ?_
 rintro e w' ⟨rfl,rfl⟩
 go_wp2_with fail
 refine(zd x 12 14 4096 8 D 12 3 x0 x1 (by omega) (by omega) (by omega) (by omega) rfl (by omega) (tw 12 4096 (by decide)) rfl (by omega) (tw 3 8 (by decide)) HD _).mono ?_
 rintro e w' ⟨rfl,rfl⟩
 go_wp2_with fail
 refine(zF x 25 33554432 U 25 x0 x1 rfl (by omega) (tw 25 33554432 (by decide)) HU _).mono ?_
 rintro e w' ⟨rfl,rfl⟩
 go_wp2_with fail
 go_ret2
 exact⟨rfl,Below.refl _ _⟩
theorem zfm(x D U:Int)(x0:0<=x)(x1:x<=4294967295)(HL:Hid ((111:Int)=x/1%128))(HD:Hid ((D:Int)=x/4096%8))(HU:Hid ((U:Int)=x/33554432))(d0:0<=D)(d1:D<8)(u0:0<=U)(u1:U<128)(w:World):
  Calls prog 53 #[.int .u32 x] w fun e w'=>e=.returned (.tuple #[.int .i64 (3),.int .u8 74])/\Below w.heap.size w w':=by
 go_enter func53,ntmps53
 go_wp2_with fail
 refine(zd x 0 6 1 128 111 0 7 x0 x1 (by omega) (by omega) (by omega) (by omega) rfl (by omega) (tw 0 1 (by decide)) rfl (by omega) (tw 7 128 (by decide)) HL _).mono ?_
 rintro e w' ⟨rfl,rfl⟩
 go_wp2_with fail
 refine(zd x 12 14 4096 8 D 12 3 x0 x1 (by omega) (by omega) (by omega) (by omega) rfl (by omega) (tw 12 4096 (by decide)) rfl (by omega) (tw 3 8 (by decide)) HD _).mono ?_
 rintro e w' ⟨rfl,rfl⟩
 go_wp2_with fail
 refine(zF x 25 33554432 U 25 x0 x1 rfl (by omega) (tw 25 33554432 (by decide)) HU _).mono ?_
 rintro e w' ⟨rfl,rfl⟩
 go_wp2_with fail
 go_ret2
 exact⟨rfl,Below.refl _ _⟩
theorem zfn(x D U q:Int)(x0:0<=x)(x1:x<=4294967295)(HL:Hid ((103:Int)=x/1%128))(HD:Hid ((D:Int)=x/4096%8))(HU:Hid ((U:Int)=x/33554432))(d0:0<=D)(d1:D<8)(u0:0<=U)(u1:U<128)(HQ:Hid (q=pk (D) (p64 #[.int .i64 0]) (p64 #[.int .i64 4]) 0 1))(w:World):
  Calls prog 53 #[.int .u32 x] w fun e w'=>e=.returned (.tuple #[.int .i64 q,.int .u8 73])/\Below w.heap.size w w':=by
 go_enter func53,ntmps53
 go_wp2_with fail
 refine(zd x 0 6 1 128 103 0 7 x0 x1 (by omega) (by omega) (by omega) (by omega) rfl (by omega) (tw 0 1 (by decide)) rfl (by omega) (tw 7 128 (by decide)) HL _).mono ?_
 rintro e w' ⟨rfl,rfl⟩
 go_wp2_with fail
 refine(zd x 12 14 4096 8 D 12 3 x0 x1 (by omega) (by omega) (by omega) (by omega) rfl (by omega) (tw 12 4096 (by decide)) rfl (by omega) (tw 3 8 (by decide)) HD _).mono ?_
 rintro e w' ⟨rfl,rfl⟩
 go_wp2_with fail
 refine(zF x 25 33554432 U 25 x0 x1 rfl (by omega) (tw 25 33554432 (by decide)) HU _).mono ?_
 rintro e w' ⟨rfl,rfl⟩
 go_wp2_with fail
 refine(xf _ q _ _ _ _ _ _ _ _ ?_ ?_ ?_ ?_ ?_ HQ).mono ?_
 ·rfl
 ·simp
 ·omega
 ·rfl
 ·rfl
 rintro e w1 ⟨rfl,hb⟩
 go_wp2_with fail
 go_ret2
 exact⟨rfl,hb⟩
theorem zgY(x D U q:Int)(x0:0<=x)(x1:x<=4294967295)(HL:Hid ((99:Int)=x/1%128))(HD:Hid ((D:Int)=x/4096%8))(HU:Hid ((U:Int)=x/33554432))(d0:0<=D)(d1:D<8)(u0:0<=U)(u1:U<128)(HQ:Hid (q=pk (D) (p64 #[.int .i64 0,.int .i64 1,.int .i64 4,.int .i64 5,.int .i64 6,.int .i64 7]) (p64 #[.int .i64 5,.int .i64 6,.int .i64 7,.int .i64 8,.int .i64 9,.int .i64 10]) 0 6))(w:World):
  Calls prog 53 #[.int .u32 x] w fun e w'=>e=.returned (.tuple #[.int .i64 q,.int .u8 66])/\Below w.heap.size w w':=by
 go_enter func53,ntmps53
 go_wp2_with fail
 refine(zd x 0 6 1 128 99 0 7 x0 x1 (by omega) (by omega) (by omega) (by omega) rfl (by omega) (tw 0 1 (by decide)) rfl (by omega) (tw 7 128 (by decide)) HL _).mono ?_
 rintro e w' ⟨rfl,rfl⟩
 go_wp2_with fail
 refine(zd x 12 14 4096 8 D 12 3 x0 x1 (by omega) (by omega) (by omega) (by omega) rfl (by omega) (tw 12 4096 (by decide)) rfl (by omega) (tw 3 8 (by decide)) HD _).mono ?_
 rintro e w' ⟨rfl,rfl⟩
 go_wp2_with fail
 refine(zF x 25 33554432 U 25 x0 x1 rfl (by omega) (tw 25 33554432 (by decide)) HU _).mono ?_
 rintro e w' ⟨rfl,rfl⟩
 go_wp2_with fail
 refine(xf _ q _ _ _ _ _ _ _ _ ?_ ?_ ?_ ?_ ?_ HQ).mono ?_
 ·rfl
 ·simp
 ·omega
 ·rfl
 ·rfl
 rintro e w1 ⟨rfl,hb⟩
 go_wp2_with fail
 go_ret2
 exact⟨rfl,hb⟩
theorem zjl(x D U q:Int)(x0:0<=x)(x1:x<=4294967295)(HL:Hid ((3:Int)=x/1%128))(HD:Hid ((D:Int)=x/4096%8))(HU:Hid ((U:Int)=x/33554432))(d0:0<=D)(d1:D<8)(u0:0<=U)(u1:U<128)(HQ:Hid (q=pk (D) (p64 #[.int .i64 0,.int .i64 1,.int .i64 2,.int .i64 4,.int .i64 5]) (p64 #[.int .i64 11,.int .i64 12,.int .i64 13,.int .i64 14,.int .i64 15]) 0 5))(w:World):
  Calls prog 53 #[.int .u32 x] w fun e w'=>e=.returned (.tuple #[.int .i64 q,.int .u8 73])/\Below w.heap.size w w':=by
 go_enter func53,ntmps53
 go_wp2_with fail
 refine(zd x 0 6 1 128 3 0 7 x0 x1 (by omega) (by omega) (by omega) (by omega) rfl (by omega) (tw 0 1 (by decide)) rfl (by omega) (tw 7 128 (by decide)) HL _).mono ?_
 rintro e w' ⟨rfl,rfl⟩
 go_wp2_with fail
 refine(zd x 12 14 4096 8 D 12 3 x0 x1 (by omega) (by omega) (by omega) (by omega) rfl (by omega) (tw 12 4096 (by decide)) rfl (by omega) (tw 3 8 (by decide)) HD _).mono ?_
 rintro e w' ⟨rfl,rfl⟩
 go_wp2_with fail
 refine(zF x 25 33554432 U 25 x0 x1 rfl (by omega) (tw 25 33554432 (by decide)) HU _).mono ?_
 rintro e w' ⟨rfl,rfl⟩
 go_wp2_with fail
 refine(xf _ q _ _ _ _ _ _ _ _ ?_ ?_ ?_ ?_ ?_ HQ).mono ?_
 ·rfl
 ·simp
 ·omega
 ·rfl
 ·rfl
 rintro e w1 ⟨rfl,hb⟩
 go_wp2_with fail
 go_ret2
 exact⟨rfl,hb⟩
theorem zgZ(x D U q:Int)(x0:0<=x)(x1:x<=4294967295)(HL:Hid ((35:Int)=x/1%128))(HD:Hid ((D:Int)=x/4096%8))(HU:Hid ((U:Int)=x/33554432))(d0:0<=D)(d1:D<8)(u0:0<=U)(u1:U<128)(HQ:Hid (q=pk (D) (p64 #[.int .i64 0,.int .i64 1,.int .i64 2]) (p64 #[.int .i64 16,.int .i64 17,.int .i64 18]) 0 3))(w:World):
  Calls prog 53 #[.int .u32 x] w fun e w'=>e=.returned (.tuple #[.int .i64 q,.int .u8 83])/\Below w.heap.size w w':=by
 go_enter func53,ntmps53
 go_wp2_with fail
 refine(zd x 0 6 1 128 35 0 7 x0 x1 (by omega) (by omega) (by omega) (by omega) rfl (by omega) (tw 0 1 (by decide)) rfl (by omega) (tw 7 128 (by decide)) HL _).mono ?_
 rintro e w' ⟨rfl,rfl⟩
 go_wp2_with fail
 refine(zd x 12 14 4096 8 D 12 3 x0 x1 (by omega) (by omega) (by omega) (by omega) rfl (by omega) (tw 12 4096 (by decide)) rfl (by omega) (tw 3 8 (by decide)) HD _).mono ?_
 rintro e w' ⟨rfl,rfl⟩
 go_wp2_with fail
 refine(zF x 25 33554432 U 25 x0 x1 rfl (by omega) (tw 25 33554432 (by decide)) HU _).mono ?_
 rintro e w' ⟨rfl,rfl⟩
 go_wp2_with fail
 refine(xf _ q _ _ _ _ _ _ _ _ ?_ ?_ ?_ ?_ ?_ HQ).mono ?_
 ·rfl
 ·simp
 ·omega
 ·rfl
 ·rfl
 rintro e w1 ⟨rfl,hb⟩
 go_wp2_with fail
 go_ret2
 exact⟨rfl,hb⟩
theorem zfo(x U q:Int)(x0:0<=x)(x1:x<=4294967295)(HL:Hid ((19:Int)=x/1%128))(HD:Hid ((1:Int)=x/4096%8))(HU:Hid ((U:Int)=x/33554432))(u0:0<=U)(u1:U<128)(HQ:Hid (q=pk (8*U+1) (p64 #[.int .i64 1,.int .i64 5,.int .i64 261]) (p64 #[.int .i64 25,.int .i64 26,.int .i64 27]) 0 3))(w:World):
  Calls prog 53 #[.int .u32 x] w fun e w'=>e=.returned (.tuple #[.int .i64 q,.int .u8 72])/\Below w.heap.size w w':=by
 go_enter func53,ntmps53
 go_wp2_with fail
 refine(zd x 0 6 1 128 19 0 7 x0 x1 (by omega) (by omega) (by omega) (by omega) rfl (by omega) (tw 0 1 (by decide)) rfl (by omega) (tw 7 128 (by decide)) HL _).mono ?_
 rintro e w' ⟨rfl,rfl⟩
 go_wp2_with fail
 refine(zd x 12 14 4096 8 1 12 3 x0 x1 (by omega) (by omega) (by omega) (by omega) rfl (by omega) (tw 12 4096 (by decide)) rfl (by omega) (tw 3 8 (by decide)) HD _).mono ?_
 rintro e w' ⟨rfl,rfl⟩
 go_wp2_with fail
 refine(zF x 25 33554432 U 25 x0 x1 rfl (by omega) (tw 25 33554432 (by decide)) HU _).mono ?_
 rintro e w' ⟨rfl,rfl⟩
 go_wp2_with fail
 refine(xf _ q _ _ _ _ _ _ _ _ ?_ ?_ ?_ ?_ ?_ HQ).mono ?_
 ·rfl
 ·simp
 ·omega
 ·rfl
 ·rfl
 rintro e w1 ⟨rfl,hb⟩
 go_wp2_with fail
 go_ret2
 exact⟨rfl,hb⟩
theorem zfp(x U q:Int)(x0:0<=x)(x1:x<=4294967295)(HL:Hid ((19:Int)=x/1%128))(HD:Hid ((5:Int)=x/4096%8))(HU:Hid ((U:Int)=x/33554432))(u0:0<=U)(u1:U<128)(HQ:Hid (q=pk (8*U+5) (p64 #[.int .i64 1,.int .i64 5,.int .i64 261]) (p64 #[.int .i64 25,.int .i64 26,.int .i64 27]) 0 3))(w:World):
  Calls prog 53 #[.int .u32 x] w fun e w'=>e=.returned (.tuple #[.int .i64 q,.int .u8 72])/\Below w.heap.size w w':=by
 go_enter func53,ntmps53
 go_wp2_with fail
 refine(zd x 0 6 1 128 19 0 7 x0 x1 (by omega) (by omega) (by omega) (by omega) rfl (by omega) (tw 0 1 (by decide)) rfl (by omega) (tw 7 128 (by decide)) HL _).mono ?_
 rintro e w' ⟨rfl,rfl⟩
 go_wp2_with fail
 refine(zd x 12 14 4096 8 5 12 3 x0 x1 (by omega) (by omega) (by omega) (by omega) rfl (by omega) (tw 12 4096 (by decide)) rfl (by omega) (tw 3 8 (by decide)) HD _).mono ?_
 rintro e w' ⟨rfl,rfl⟩
 go_wp2_with fail
 refine(zF x 25 33554432 U 25 x0 x1 rfl (by omega) (tw 25 33554432 (by decide)) HU _).mono ?_
 rintro e w' ⟨rfl,rfl⟩
 go_wp2_with fail
 refine(xf _ q _ _ _ _ _ _ _ _ ?_ ?_ ?_ ?_ ?_ HQ).mono ?_
 ·rfl
 ·simp
 ·omega
 ·rfl
 ·rfl
 rintro e w1 ⟨rfl,hb⟩
 go_wp2_with fail
 go_ret2
 exact⟨rfl,hb⟩
theorem zfq(x D U q:Int)(x0:0<=x)(x1:x<=4294967295)(HL:Hid ((19:Int)=x/1%128))(HD:Hid ((D:Int)=x/4096%8))(HU:Hid ((U:Int)=x/33554432))(d0:0<=D)(d1:D<8)(u0:0<=U)(u1:U<128)(nd1:¬D=1)(nd5:¬D=5)(HQ:Hid (q=pk (D) (p64 #[.int .i64 0,.int .i64 2,.int .i64 3,.int .i64 4,.int .i64 6,.int .i64 7]) (p64 #[.int .i64 19,.int .i64 20,.int .i64 21,.int .i64 22,.int .i64 23,.int .i64 24]) 0 6))(w:World):
  Calls prog 53 #[.int .u32 x] w fun e w'=>e=.returned (.tuple #[.int .i64 q,.int .u8 73])/\Below w.heap.size w w':=by
 have e1:(D==1)=false:=by simpa using nd1
 have e5:(D==5)=false:=by simpa using nd5
 go_enter func53,ntmps53
 go_wp2_with fail
 refine(zd x 0 6 1 128 19 0 7 x0 x1 (by omega) (by omega) (by omega) (by omega) rfl (by omega) (tw 0 1 (by decide)) rfl (by omega) (tw 7 128 (by decide)) HL _).mono ?_
 rintro e w' ⟨rfl,rfl⟩
 go_wp2_with fail
 refine(zd x 12 14 4096 8 D 12 3 x0 x1 (by omega) (by omega) (by omega) (by omega) rfl (by omega) (tw 12 4096 (by decide)) rfl (by omega) (tw 3 8 (by decide)) HD _).mono ?_
 rintro e w' ⟨rfl,rfl⟩
 go_wp2_with fail
 refine(zF x 25 33554432 U 25 x0 x1 rfl (by omega) (tw 25 33554432 (by decide)) HU _).mono ?_
 rintro e w' ⟨rfl,rfl⟩
 go_wp2_with fail
 refine(xf _ q _ _ _ _ _ _ _ _ ?_ ?_ ?_ ?_ ?_ HQ).mono ?_
 ·rfl
 ·simp
 ·omega
 ·rfl
 ·rfl
 rintro e w1 ⟨rfl,hb⟩
 go_wp2_with fail
 go_ret2
 exact⟨rfl,hb⟩
theorem zfr(x D q:Int)(x0:0<=x)(x1:x<=4294967295)(HL:Hid ((51:Int)=x/1%128))(HD:Hid ((D:Int)=x/4096%8))(HU:Hid ((0:Int)=x/33554432))(d0:0<=D)(d1:D<8)(HQ:Hid (q=pk (D) (p64 #[.int .i64 0,.int .i64 1,.int .i64 2,.int .i64 3,.int .i64 4,.int .i64 5,.int .i64 6,.int .i64 7]) (p64 #[.int .i64 28,.int .i64 30,.int .i64 31,.int .i64 32,.int .i64 33,.int .i64 34,.int .i64 36,.int .i64 37]) 0 8))(w:World):
  Calls prog 53 #[.int .u32 x] w fun e w'=>e=.returned (.tuple #[.int .i64 q,.int .u8 82])/\Below w.heap.size w w':=by
 go_enter func53,ntmps53
 go_wp2_with fail
 refine(zd x 0 6 1 128 51 0 7 x0 x1 (by omega) (by omega) (by omega) (by omega) rfl (by omega) (tw 0 1 (by decide)) rfl (by omega) (tw 7 128 (by decide)) HL _).mono ?_
 rintro e w' ⟨rfl,rfl⟩
 go_wp2_with fail
 refine(zd x 12 14 4096 8 D 12 3 x0 x1 (by omega) (by omega) (by omega) (by omega) rfl (by omega) (tw 12 4096 (by decide)) rfl (by omega) (tw 3 8 (by decide)) HD _).mono ?_
 rintro e w' ⟨rfl,rfl⟩
 go_wp2_with fail
 refine(zF x 25 33554432 0 25 x0 x1 rfl (by omega) (tw 25 33554432 (by decide)) HU _).mono ?_
 rintro e w' ⟨rfl,rfl⟩
 go_wp2_with fail
 refine(xf _ q _ _ _ _ _ _ _ _ ?_ ?_ ?_ ?_ ?_ HQ).mono ?_
 ·rfl
 ·simp
 ·omega
 ·rfl
 ·rfl
 rintro e w1 ⟨rfl,hb⟩
 go_wp2_with fail
 go_ret2
 exact⟨rfl,hb⟩
theorem zfs(x D q:Int)(x0:0<=x)(x1:x<=4294967295)(HL:Hid ((51:Int)=x/1%128))(HD:Hid ((D:Int)=x/4096%8))(HU:Hid ((32:Int)=x/33554432))(d0:0<=D)(d1:D<8)(HQ:Hid (q=pk (D) (p64 #[.int .i64 0,.int .i64 5]) (p64 #[.int .i64 29,.int .i64 35]) 0 2))(w:World):
  Calls prog 53 #[.int .u32 x] w fun e w'=>e=.returned (.tuple #[.int .i64 q,.int .u8 82])/\Below w.heap.size w w':=by
 go_enter func53,ntmps53
 go_wp2_with fail
 refine(zd x 0 6 1 128 51 0 7 x0 x1 (by omega) (by omega) (by omega) (by omega) rfl (by omega) (tw 0 1 (by decide)) rfl (by omega) (tw 7 128 (by decide)) HL _).mono ?_
 rintro e w' ⟨rfl,rfl⟩
 go_wp2_with fail
 refine(zd x 12 14 4096 8 D 12 3 x0 x1 (by omega) (by omega) (by omega) (by omega) rfl (by omega) (tw 12 4096 (by decide)) rfl (by omega) (tw 3 8 (by decide)) HD _).mono ?_
 rintro e w' ⟨rfl,rfl⟩
 go_wp2_with fail
 refine(zF x 25 33554432 32 25 x0 x1 rfl (by omega) (tw 25 33554432 (by decide)) HU _).mono ?_
 rintro e w' ⟨rfl,rfl⟩
 go_wp2_with fail
 refine(xf _ q _ _ _ _ _ _ _ _ ?_ ?_ ?_ ?_ ?_ HQ).mono ?_
 ·rfl
 ·simp
 ·omega
 ·rfl
 ·rfl
 rintro e w1 ⟨rfl,hb⟩
 go_wp2_with fail
 go_ret2
 exact⟨rfl,hb⟩
theorem zft(x D q:Int)(x0:0<=x)(x1:x<=4294967295)(HL:Hid ((51:Int)=x/1%128))(HD:Hid ((D:Int)=x/4096%8))(HU:Hid ((1:Int)=x/33554432))(d0:0<=D)(d1:D<8)(HQ:Hid (q=pk (D) (p64 #[.int .i64 0,.int .i64 1,.int .i64 2,.int .i64 3,.int .i64 4,.int .i64 5,.int .i64 6,.int .i64 7]) (p64 #[.int .i64 38,.int .i64 39,.int .i64 40,.int .i64 41,.int .i64 42,.int .i64 43,.int .i64 44,.int .i64 45]) 0 8))(w:World):
  Calls prog 53 #[.int .u32 x] w fun e w'=>e=.returned (.tuple #[.int .i64 q,.int .u8 82])/\Below w.heap.size w w':=by
 go_enter func53,ntmps53
 go_wp2_with fail
 refine(zd x 0 6 1 128 51 0 7 x0 x1 (by omega) (by omega) (by omega) (by omega) rfl (by omega) (tw 0 1 (by decide)) rfl (by omega) (tw 7 128 (by decide)) HL _).mono ?_
 rintro e w' ⟨rfl,rfl⟩
 go_wp2_with fail
 refine(zd x 12 14 4096 8 D 12 3 x0 x1 (by omega) (by omega) (by omega) (by omega) rfl (by omega) (tw 12 4096 (by decide)) rfl (by omega) (tw 3 8 (by decide)) HD _).mono ?_
 rintro e w' ⟨rfl,rfl⟩
 go_wp2_with fail
 refine(zF x 25 33554432 1 25 x0 x1 rfl (by omega) (tw 25 33554432 (by decide)) HU _).mono ?_
 rintro e w' ⟨rfl,rfl⟩
 go_wp2_with fail
 refine(xf _ q _ _ _ _ _ _ _ _ ?_ ?_ ?_ ?_ ?_ HQ).mono ?_
 ·rfl
 ·simp
 ·omega
 ·rfl
 ·rfl
 rintro e w1 ⟨rfl,hb⟩
 go_wp2_with fail
 go_ret2
 exact⟨rfl,hb⟩
theorem zfu(x D U:Int)(x0:0<=x)(x1:x<=4294967295)(HL:Hid ((51:Int)=x/1%128))(HD:Hid ((D:Int)=x/4096%8))(HU:Hid ((U:Int)=x/33554432))(d0:0<=D)(d1:D<8)(u0:0<=U)(u1:U<128)(nu0:¬U=0)(nu32:¬U=32)(nu1:¬U=1)(w:World):
  Calls prog 53 #[.int .u32 x] w fun e w'=>e=.returned (.tuple #[.int .i64 (-1),.int .u8 69])/\Below w.heap.size w w':=by
 go_enter func53,ntmps53
 go_wp2_with fail
 refine(zd x 0 6 1 128 51 0 7 x0 x1 (by omega) (by omega) (by omega) (by omega) rfl (by omega) (tw 0 1 (by decide)) rfl (by omega) (tw 7 128 (by decide)) HL _).mono ?_
 rintro e w' ⟨rfl,rfl⟩
 go_wp2_with fail
 refine(zd x 12 14 4096 8 D 12 3 x0 x1 (by omega) (by omega) (by omega) (by omega) rfl (by omega) (tw 12 4096 (by decide)) rfl (by omega) (tw 3 8 (by decide)) HD _).mono ?_
 rintro e w' ⟨rfl,rfl⟩
 go_wp2_with fail
 refine(zF x 25 33554432 U 25 x0 x1 rfl (by omega) (tw 25 33554432 (by decide)) HU _).mono ?_
 rintro e w' ⟨rfl,rfl⟩
 go_wp2_with fail
 go_ret2
 exact⟨rfl,Below.refl _ _⟩
theorem zg0(x D U q:Int)(x0:0<=x)(x1:x<=4294967295)(HL:Hid ((15:Int)=x/1%128))(HD:Hid ((D:Int)=x/4096%8))(HU:Hid ((U:Int)=x/33554432))(d0:0<=D)(d1:D<8)(u0:0<=U)(u1:U<128)(HQ:Hid (q=pk (D) (p64 #[.int .i64 0]) (p64 #[.int .i64 46]) 0 1))(w:World):
  Calls prog 53 #[.int .u32 x] w fun e w'=>e=.returned (.tuple #[.int .i64 q,.int .u8 73])/\Below w.heap.size w w':=by
 go_enter func53,ntmps53
 go_wp2_with fail
 refine(zd x 0 6 1 128 15 0 7 x0 x1 (by omega) (by omega) (by omega) (by omega) rfl (by omega) (tw 0 1 (by decide)) rfl (by omega) (tw 7 128 (by decide)) HL _).mono ?_
 rintro e w' ⟨rfl,rfl⟩
 go_wp2_with fail
 refine(zd x 12 14 4096 8 D 12 3 x0 x1 (by omega) (by omega) (by omega) (by omega) rfl (by omega) (tw 12 4096 (by decide)) rfl (by omega) (tw 3 8 (by decide)) HD _).mono ?_
 rintro e w' ⟨rfl,rfl⟩
 go_wp2_with fail
 refine(zF x 25 33554432 U 25 x0 x1 rfl (by omega) (tw 25 33554432 (by decide)) HU _).mono ?_
 rintro e w' ⟨rfl,rfl⟩
 go_wp2_with fail
 refine(xf _ q _ _ _ _ _ _ _ _ ?_ ?_ ?_ ?_ ?_ HQ).mono ?_
 ·rfl
 ·simp
 ·omega
 ·rfl
 ·rfl
 rintro e w1 ⟨rfl,hb⟩
 go_wp2_with fail
 go_ret2
 exact⟨rfl,hb⟩
theorem zfv(x D U q:Int)(x0:0<=x)(x1:x<=4294967295)(HL:Hid ((115:Int)=x/1%128))(HD:Hid ((D:Int)=x/4096%8))(HU:Hid ((U:Int)=x/33554432))(d0:0<=D)(d1:D<8)(u0:0<=U)(u1:U<128)(HQ:Hid (q=pk (x) (p64 #[.int .i64 115,.int .i64 1048691]) (p64 #[.int .i64 47,.int .i64 48]) 0 2))(w:World):
  Calls prog 53 #[.int .u32 x] w fun e w'=>e=.returned (.tuple #[.int .i64 q,.int .u8 69])/\Below w.heap.size w w':=by
 go_enter func53,ntmps53
 go_wp2_with fail
 refine(zd x 0 6 1 128 115 0 7 x0 x1 (by omega) (by omega) (by omega) (by omega) rfl (by omega) (tw 0 1 (by decide)) rfl (by omega) (tw 7 128 (by decide)) HL _).mono ?_
 rintro e w' ⟨rfl,rfl⟩
 go_wp2_with fail
 refine(zd x 12 14 4096 8 D 12 3 x0 x1 (by omega) (by omega) (by omega) (by omega) rfl (by omega) (tw 12 4096 (by decide)) rfl (by omega) (tw 3 8 (by decide)) HD _).mono ?_
 rintro e w' ⟨rfl,rfl⟩
 go_wp2_with fail
 refine(zF x 25 33554432 U 25 x0 x1 rfl (by omega) (tw 25 33554432 (by decide)) HU _).mono ?_
 rintro e w' ⟨rfl,rfl⟩
 go_wp2_with fail
 refine(xf _ q _ _ _ _ _ _ _ _ ?_ ?_ ?_ ?_ ?_ HQ).mono ?_
 ·rfl
 ·simp
 ·omega
 ·rfl
 ·rfl
 rintro e w1 ⟨rfl,hb⟩
 go_wp2_with fail
 go_ret2
 exact⟨rfl,hb⟩
theorem zdh(x L D U:Int)(x0:0<=x)(x1:x<=4294967295)(HL:Hid ((L:Int)=x/1%128))(HD:Hid ((D:Int)=x/4096%8))(HU:Hid ((U:Int)=x/33554432))(l0:0<=L)(l1:L<128)(n55:¬L=55)(n23:¬L=23)(n111:¬L=111)(n103:¬L=103)(n99:¬L=99)(n3:¬L=3)(n35:¬L=35)(n19:¬L=19)(n51:¬L=51)(n15:¬L=15)(n115:¬L=115)(d0:0<=D)(d1:D<8)(u0:0<=U)(u1:U<128)(w:World):
  Calls prog 53 #[.int .u32 x] w fun e w'=>e=.returned (.tuple #[.int .i64 (-1),.int .u8 69])/\Below w.heap.size w w':=by
 go_enter func53,ntmps53
 go_wp2_with fail
 refine(zd x 0 6 1 128 L 0 7 x0 x1 (by omega) (by omega) (by omega) (by omega) rfl (by omega) (tw 0 1 (by decide)) rfl (by omega) (tw 7 128 (by decide)) HL _).mono ?_
 rintro e w' ⟨rfl,rfl⟩
 go_wp2_with fail
 refine(zd x 12 14 4096 8 D 12 3 x0 x1 (by omega) (by omega) (by omega) (by omega) rfl (by omega) (tw 12 4096 (by decide)) rfl (by omega) (tw 3 8 (by decide)) HD _).mono ?_
 rintro e w' ⟨rfl,rfl⟩
 go_wp2_with fail
 refine(zF x 25 33554432 U 25 x0 x1 rfl (by omega) (tw 25 33554432 (by decide)) HU _).mono ?_
 rintro e w' ⟨rfl,rfl⟩
 go_wp2_with fail
 go_ret2
 exact⟨rfl,Below.refl _ _⟩
end Go.Proofs.YtpiohehijkpghabGreatDoor
namespace Go.Proofs.YtpiohehijkpghabGreatDoor.Hy
open Go.RowKit
def tl(n:Nat)(l d u:Int):Bool:=
 if kn n=1\/kn n=2 then l==kb n
 else if kn n=3\/kn n=5\/kn n=6 then l+d*4096==kb n
 else l+d*4096+u*33554432==kb n
theorem zkB(n:Nat)(n1:1<=n)(n2:n<=46)(x:Int)(x0:0<=x)(x1:x<4294967296):hit n x=tl n (x%128) (x/4096%8) (x/33554432):=by
 have hk:∀n,n<47->1<=n->kn n=1\/kn n=2\/kn n=3\/kn n=5\/kn n=6\/kn n=4\/kn n=7:=by decide
 unfold hit tl
 have e1:fm 1 0=127:=by decide
 have e2:fm 2 0=127:=by decide
 have e3:fm 3 0=28799:=by decide
 have e5:fm 5 0=28799:=by decide
 have e6:fm 6 0=28799:=by decide
 have e4:fm 4 0=4261441663:=by decide
 have e7:fm 7 0=4261441663:=by decide
 rcases hk n (by omega) n1 with h|h|h|h|h|h|h
 all_goals rw[h]
 ·rw[e1,zge x x0 x1];rfl
 ·rw[e2,zge x x0 x1];rfl
 ·rw[e3,zgf x x0 x1];rfl
 ·rw[e5,zgf x x0 x1];rfl
 ·rw[e6,zgf x x0 x1];rfl
 ·rw[e4,zks x x0 x1];rfl
 ·rw[e7,zks x x0 x1];rfl
theorem zpP(n:Nat)(h:n=47\/n=48)(x:Int)(x0:0<=x)(x1:x<4294967296):hit n x=(x==kb n):=by
 have e8:fm 8 0=4294967295:=by decide
 unfold hit
 rcases h with rfl|rfl
 all_goals
  rw[show kn _=8 from by decide,e8,znc x x0 x1]
def znU:Bool:=(List.range 49).all fun n=>(List.range 49).all fun m=>n==0||m==0||n==m||!(((kb n).toNat&&& (fm (kn m) 0).toNat)==((kb m).toNat&&& (fm (kn n) 0).toNat))
theorem zdi:znU=true:=by decide
theorem apart(n:Nat)(hn:n<49)(m:Nat)(hm:m<49)(n1:1<=n)(m1:1<=m)(h:n≠m):((kb n).toNat&&& (fm (kn m) 0).toNat)≠((kb m).toNat&&& (fm (kn n) 0).toNat):=by
 have h1:=List.all_eq_true.1 (List.all_eq_true.1 zdi n (List.mem_range.2 hn)) m (List.mem_range.2 hm)
 intro e
 rw[e]at h1
 have a:(n==0)=false:=by simp;omega
 have b:(m==0)=false:=by simp;omega
 have c:(n==m)=false:=by simpa using h
 rw[a,b,c]at h1
 simp at h1
theorem zlC(n m:Nat)(n1:1<=n)(n2:n<=48)(m1:1<=m)(m2:m<=48)(x:Int)(x0:0<=x)(x1:x<4294967296)(hn:hit n x=true)(hm:hit m x=true):n=m:=by
 refine Decidable.byContradiction fun hne=>?_
 apply apart n (by omega) m (by omega) n1 m1 hne
 unfold hit at hn hm
 have t1:=zaf (kn n) (zgc n (by omega)).1
 have t2:=zaf (kn m) (zgc m (by omega)).1
 have en:=beq_iff_eq.1 hn
 have em:=beq_iff_eq.1 hm
 rw[u32_and x _ x0 x1 t1.1 (by omega)]at en
 rw[u32_and x _ x0 x1 t2.1 (by omega)]at em
 rw[<-en,<-em]
 simp only[Int.toNat_natCast]
 rw[Nat.and_assoc,Nat.and_assoc,Nat.and_comm (fm (kn n) 0).toNat]
theorem zjm(m:Nat)(m1:1<=m)(m2:m<47)(l d u:Int)(l0:0<=l)(l1:l<128)(d0:0<=d)(d1:d<8)(u0:0<=u)(h:tl m l d u=true):
  kb m%128=l/\(kn m=1\/kn m=2\/kb m/4096%8=d)/\(kn m=4\/kn m=7->kb m/33554432=u):=by
 have hk:∀n,n<47->1<=n->kn n=1\/kn n=2\/kn n=3\/kn n=5\/kn n=6\/kn n=4\/kn n=7:=by decide
 unfold tl at h
 rcases hk m m2 m1 with e|e|e|e|e|e|e
 all_goals
  rw[e]at h⊢
  have h':=beq_iff_eq.1 (show(_==kb m)=true from h)
  omega
def lett(f:Nat):Int:=[0,85,74,73,72,66,83,82,69].getD f 0
def told(x q l:Int):Prop:=(∃n:Nat,1<=n/\n<=48/\q=(n:Int)/\hit n x=true/\l=lett (kn n))\/(q=-1/\∀m,1<=m->m<=48->hit m x=false)
theorem zk(x:Int)(x0:0<=x)(x1:x<4294967296)(L D U:Int)(HL:L=x%128)(HD:D=x/4096%8)(HU:U=x/33554432)(n:Nat)(n1:1<=n)(n2:n<=46)(q l:Int)(hq:q=(n:Int))(h:tl n L D U=true)(hl:l=lett (kn n)):told x q l:=by
 refine .inl ⟨n,n1,by omega,hq,?_,hl⟩
 rw[zkB n n1 n2 x x0 x1,<-HL,<-HD,<-HU]
 exact h
theorem zB(x:Int)(x0:0<=x)(x1:x<4294967296)(L D U:Int)(HL:L=x%128)(HD:D=x/4096%8)(HU:U=x/33554432)(q l:Int)(hq:q=-1)
  (h:∀m,m<47->1<=m->kb m%128=L->(kn m=1\/kn m=2\/kb m/4096%8=D)->(kn m=4\/kn m=7->kb m/33554432=U)->False)
  (h47:x≠115) (h48:x≠1048691):told x q l:=by
 refine .inr ⟨hq,fun m m1 m2=>?_⟩
 by_cases hm:m<47
 ·rw[zkB m m1 (by omega) x x0 x1,<-HL,<-HD,<-HU,Bool.eq_false_iff]
  intro ht
  obtain⟨a,b,c⟩:=zjm m m1 hm L D U (by omega) (by omega) (by omega) (by omega) (by omega) ht
  exact h m hm m1 a b c
 ·rw[zpP m (by omega) x x0 x1,beq_eq_false_iff_ne]
  rcases(by omega:m=47\/m=48)with rfl|rfl
  ·exact h47
  ·exact h48
end Go.Proofs.YtpiohehijkpghabGreatDoor.Hy
