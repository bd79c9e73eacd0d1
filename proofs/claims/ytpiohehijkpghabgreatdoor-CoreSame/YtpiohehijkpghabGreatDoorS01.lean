/- Plain facts on words of 32 bits: what each operation of chapter 1 makes of two words, and the arithmetic by which two ways of reckoning it agree. Nothing of the program is named here. -/
import Derived.WalkKit
import Derived.Laws.BitsAllLaws
import Derived.Test.YtpiohehijkpghabGreatDoorRows
import Derived.WalkSpells
import Derived.WalkLawsBesides
import Derived.Laws.Bits64
import Derived.Below
import Derived.Deep.RegionHeld3
import Derived.Deep.DrawnRows
import Derived.OpenShut
set_option maxHeartbeats 1000000
set_option linter.unusedVariables false
open Go.Proofs.Tryz
namespace Go.Proofs.YtpiohehijkpghabGreatDoor.Hy
open Go.RowKit
def msk(n:Int):Int:=((2:Int)^n.toNat%4294967296-1)%4294967296
def beg(k:Nat):Int:=if k=0 then 1 else if k=1 then 4096 else 33554432
def tb(ps:Nat->Int):Nat->Int
 |0=>0
 |k+1=>bits .or .u32 (tb ps k) (ps k*beg k%4294967296)
def pc(x a m s:Int):Int:=bits .and .u32 (x/2^min a.toNat 32) (msk m)*2^min s.toNat 32%4294967296
def ib(c:Nat->Int)(x:Int):Nat->Int
 |0=>0
 |j+1=>bits .or .u32 (ib c x j) (pc x (c (5+3*j)) (c (6+3*j)) (c (7+3*j)))
def rim(c:Nat->Int)(x:Int):Int:=wrap32 (ib c x 4*2^(c 4).toNat%4294967296)/2^(c 4).toNat
def rrg(x d m:Int):Int:=wrap64 (bits .and .u32 (x/d) m)
def kfs:List Int:=[0,1,1,2,3,5,5,5,5,5,5,3,3,3,3,3,6,6,6,3,3,3,3,3,3,4,4,4,7,7,7,7,7,7,7,7,7,7,7,7,7,7,7,7,7,7,3,8,8]
def kbs:List Int:=[0,55,23,111,103,99,4195,16483,20579,24675,28771,3,4099,8195,16387,20483,35,4131,8227,19,8211,12307,16403,24595,28691,4115,20499,1073762323,51,1073741875,4147,8243,12339,16435,20531,1073762355,24627,28723,33554483,33558579,33562675,33566771,33570867,33574963,33579059,33583155,15,115,1048691]
def kf(n:Nat):Int:=kfs.getD n 0
def kb(n:Nat):Int:=kbs.getD n 0
end Go.Proofs.YtpiohehijkpghabGreatDoor.Hy
namespace Go.Proofs.YtpiohehijkpghabGreatDoor
open Go.RowKit
open Hy
attribute [local go_sem ↓] Go.wp_at_zero Go.wp_at_succ
theorem yx(p0 p1 p2:Int)(h0:0<=p1)(h1:p1<=31)(w:World):
  Calls prog 166 #[.agg #[.int .u32 p0,.int .u32 p1,.int .u32 p2]] w fun e w'=>e=.returned (.int .u32 (msk p1))/\Below w.heap.size w w':=by
 go_enter func166,ntmps166
 go_wp2
 go_ret
 exact⟨rfl,(Below.refl _ _).alloc (Nat.le_refl _) _⟩
structure TB(f:Int)(B:Nat)(bs:Int)(w wl:World):Prop where
 c0:wl.cell? ⟨B+1+1,0,none⟩=some (.int .i64 f)
 c1:wl.cell? ⟨B+1+1,1,none⟩=some (.int .u32 bs)
 b0:wl.cell? ⟨B+1,0,none⟩=some (.int .u32 0)
 b1:wl.cell? ⟨B+1,1,none⟩=some (.int .u32 12)
 b2:wl.cell? ⟨B+1,2,none⟩=some (.int .u32 25)
 r0:wl.cell? ⟨B,0,none⟩=some (.int .i64 0)
 r1:wl.cell? ⟨B,1,none⟩=some (.int .u32 0)
 z0:wl.frozen? ⟨B,0,none⟩=false
 z1:wl.frozen? ⟨B,1,none⟩=false
 z2:wl.frozen? ⟨B+1+1,1,none⟩=false
 be:Below B w wl
theorem zk3{f:Int}{B:Nat}{T V V':Int}{w wr:World}(hV:V=V')
  (c0:wr.cell? ⟨B+1+1,0,none⟩=some (.int .i64 f))
  (c1:wr.cell? ⟨B+1+1,1,none⟩=some (.int .u32 T))
  (b0:wr.cell? ⟨B+1,0,none⟩=some (.int .u32 0))
  (b1:wr.cell? ⟨B+1,1,none⟩=some (.int .u32 12))
  (b2:wr.cell? ⟨B+1,2,none⟩=some (.int .u32 25))
  (r0:wr.cell? ⟨B,0,none⟩=some (.int .i64 0))
  (r1:wr.cell? ⟨B,1,none⟩=some (.int .u32 0))
  (z0:wr.frozen? ⟨B,0,none⟩=false)
  (z1:wr.frozen? ⟨B,1,none⟩=false)
  (z2:wr.frozen? ⟨B+1+1,1,none⟩=false)
  (be:Below B w wr):
  TB f B (bits .or .u32 T V') w (wr.setCell ⟨B+1+1,1,none⟩ (.int .u32 (bits .or .u32 T V))).drew:=by
 subst hV
 refine⟨?_,?_,?_,?_,?_,?_,?_,?_,?_,?_,(be.setCell (by simp;omega) _).drew⟩
 all_goals simp[go_sem, *]
theorem zeU(n:Nat)(hn:n<=3)(f:Int)(b:Nat)(ps:Nat->Int)(w:World)(hb:b<w.heap.size)
  (hc:∀j:Nat,j<n->w.cell? ⟨b,j,none⟩=some (.int .u32 (ps j))):
  Calls prog 164 #[.int .i64 f,.slice (some ⟨b,0,none⟩) n n] w fun e w'=>e=.returned (.agg #[.int .i64 f,.int .u32 (tb ps n)])/\Below w.heap.size w w':=by
 go_enter func164,ntmps164
 go_wp2
 go_loopw [7,8,14] (fun i p k wl=>∃j:Nat,j<=n/\k=.int .i64 j/\TB f w.heap.size (tb ps j) w wl) (fun _ _ k _=>n-(intOf k).toNat)
 case atStart=>
  refine⟨0,Nat.zero_le _,rfl,⟨?_,?_,?_,?_,?_,?_,?_,?_,?_,?_,?_⟩⟩
  all_goals try simp[go_sem,tb]
  exact(((Below.refl _ _).alloc (Nat.le_refl _) _).alloc (by simp) _).alloc (by simp;omega) _
 case round=>
  obtain⟨j,hj,rfl,hT⟩:=hrel
  have c0:=hT.c0
  have c1:=hT.c1
  have b0:=hT.b0
  have b1:=hT.b1
  have b2:=hT.b2
  have r0:=hT.r0
  have r1:=hT.r1
  have z0:=hT.z0
  have z1:=hT.z1
  have z2:=hT.z2
  by_cases hlt:j<n
  ·have hx:wr.cell? ⟨b,j,none⟩=some (.int .u32 (ps j)):=(hT.be.cell (p:=⟨b,j,none⟩) hb).trans (hc j hlt)
   have hj3:j=0\/j=1\/j=2:=by omega
   obtain⟨T,hTb⟩:∃T,T=tb ps j:=⟨_,rfl⟩
   have HT:Hid (T=tb ps j):=hTb
   rw[<-hTb]at c1
   have hbe:=hT.be
   clear hc hTb hT
   rcases hj3 with rfl|rfl|rfl
   all_goals
    go_wp2_with fail
    go_region
    go_wp2
    refine⟨⟨_,hlt,by go_num,?_⟩,by simp[intOf];omega⟩
    rw[tb,<-HT.out]
    exact zk3 (by simp[beg]) c0 c1 b0 b1 b2 r0 r1 z0 z1 z2 hbe
  ·obtain rfl:j=n:=by omega
   go_wp2
   exact bodyPost_ret (v:=.agg #[.int .i64 f,.int .u32 (tb ps j)]) (by simp[results,results164,go_sem,r0,r1]) rfl ⟨rfl,(hT.be.setCell (Nat.le_refl _) _).setCell (Nat.le_refl _) _⟩
end Go.Proofs.YtpiohehijkpghabGreatDoor
namespace Go.Proofs.YtpiohehijkpghabGreatDoor.Hy
open Go.RowKit
def ftab:List Int:=[0,0,0,0,0,0,0,0,0,0,0,0,0,0,0,0,0,127,31,0,0,0,12,20,12,0,0,0,0,0,0,0,0,0,127,31,0,0,11,31,1,20,12,8,12,20,1,11,21,10,1,28799,31,31,0,20,20,12,0,0,0,0,0,0,0,0,0,0,4261441663,31,31,0,0,20,5,0,0,0,0,0,0,0,0,0,0,28799,0,31,31,19,31,1,12,7,1,11,25,6,5,8,4,1,28799,0,31,31,20,25,7,5,7,5,0,0,0,0,0,0,0,4261441663,31,31,31,0,0,0,0,0,0,0,0,0,0,0,0,0,4294967295,0,0,0,0,0,0,0,0,0,0,0,0,0,0,0,0]
def fm(f:Nat)(j:Nat):Int:=if j<17 then ftab.getD (f*17+j) 0 else 0
theorem ziI(f:Nat)(hf:f<9)(j:Nat)(hj:1<=j):0<=fm f j/\fm f j<=31:=by
 by_cases h:j<17
 ·have:∀f,f<9->∀j,j<17->1<=j->0<=fm f j/\fm f j<=31:=by decide
  exact this f hf j h hj
 ·simp[fm,h]
def kn(n:Nat):Nat:=(kf n).toNat
theorem zgc:∀n,n<49->kn n<9/\kf n=(kn n:Int)/\(1<=n->1<=kn n):=by decide
theorem zaf:∀f,f<9->0<=fm f 0/\fm f 0<=4294967295:=by decide
def hit(n:Nat)(x:Int):Bool:=bits .and .u32 x (fm (kn n) 0)==kb n
theorem zcT(i j a b:Nat)(hij:i<=j)(ha:a%2^j<2^i)(hb:b<2^j)(hb0:b%2^i=0):a|||b=a+b:=by
 obtain⟨d,rfl⟩:∃d,j=i+d:=⟨j-i,by omega⟩
 have hp:0<2^i:=Nat.two_pow_pos i
 have hlo:a%2^(i+d)+2^(i+d)*(a/2^(i+d))=a:=Nat.mod_add_div _ _
 have e1:(2^(i+d)*(a/2^(i+d)))|||(a%2^(i+d))=2^(i+d)*(a/2^(i+d))+a%2^(i+d):=
  nat_join (i+d) _ _ (by simp) (Nat.mod_lt _ (Nat.two_pow_pos _))
 have e2:b|||(a%2^(i+d))=b+a%2^(i+d):=nat_join i _ _ hb0 ha
 have hlt:b+a%2^(i+d)<2^(i+d):=by
  have hb':b=2^i*(b/2^i):=by have:=Nat.mod_add_div b (2^i);omega
  have hq:b/2^i<2^d:=by
   rw[Nat.div_lt_iff_lt_mul hp,<-Nat.pow_add,Nat.add_comm];exact hb
  have:2^i*(b/2^i)+2^i<=2^i*2^d:=by
   rw[<-Nat.mul_succ];exact Nat.mul_le_mul_left _ hq
  rw[<-Nat.pow_add]at this
  omega
 have e3:(2^(i+d)*(a/2^(i+d)))|||(b+a%2^(i+d))=2^(i+d)*(a/2^(i+d))+(b+a%2^(i+d)):=
  nat_join (i+d) _ _ (by simp) hlt
 have e4:a|||b=(2^(i+d)*(a/2^(i+d))|||a%2^(i+d))|||b:=by rw[e1];congr 1;omega
 rw[e4,Nat.or_assoc,Nat.or_comm (a%_) b,e2,e3];omega
theorem qk(i j:Nat)(hij:i<=j)(P Q a b:Int)(hP:P=((2^i:Nat):Int))(hQ:Q=((2^j:Nat):Int))(a0:0<=a)(a1:a<4294967296)(ha:a%Q<P)(b0:0<=b)(b1:b<4294967296)(hb:b<Q)(hb0:b%P=0):
  bits .or .u32 a b=a+b:=by
 rw[u32_or a b a0 a1 b0 b1]
 obtain⟨n,rfl⟩:=Int.eq_ofNat_of_zero_le a0
 obtain⟨m,rfl⟩:=Int.eq_ofNat_of_zero_le b0
 subst hP hQ
 simp only[Int.toNat_natCast]
 rw[zcT i j n m hij (by exact_mod_cast ha) (by exact_mod_cast hb) (by exact_mod_cast hb0)]
 simp
theorem jK{a Q P:Int}(hi lo:Int)(h:a=hi*Q+lo)(l0:0<=lo)(l1:lo<P)(hPQ:P<=Q):a%Q<P:=by
 subst h
 rw[Int.add_comm,Int.add_mul_emod_self_right,Int.emod_eq_of_lt l0 (by omega)]
 exact l1
theorem yM(a:Int)(a0:0<=a)(a1:a<4294967296):bits .or .u32 a 0=a:=by
 rw[u32_or a 0 a0 a1 (by omega) (by omega)]
 simp;omega
theorem zdT(o:BinOp)(a b:Int):0<=bits o .u32 a b/\bits o .u32 a b<4294967296:=by
 have h:=bounds_u32 (wf_bits o .u32 a b)
 omega
theorem qB(o:BinOp)(a b:Int):bits .or .u32 (bits o .u32 a b) 0=bits o .u32 a b:=
 yM _ (zdT o a b).1 (zdT o a b).2
theorem jD(k:Nat)(hk:k<=32)(m Q x:Int)(hm:m=((2^k-1:Nat):Int))(hQ:Q=((2^k:Nat):Int))(x0:0<=x)(x1:x<4294967296):bits .and .u32 x m=x%Q:=by
 subst hm hQ
 have hle:2^k<=2^32:=Nat.pow_le_pow_right (by omega) hk
 rw[u32_and x _ x0 x1 (by omega) (by omega)]
 obtain⟨n,rfl⟩:=Int.eq_ofNat_of_zero_le x0
 simp only[Int.toNat_natCast]
 rw[Nat.and_two_pow_sub_one_eq_mod]
 simp
theorem xq(x:Int)(x0:0<=x)(x1:x<4294967296):bits .and .u32 x 0=0:=by
 rw[u32_and x 0 x0 x1 (by omega) (by omega)];simp
theorem zgd(x:Int)(x0:0<=x)(x1:x<4294967296):bits .and .u32 x 31=x%32:=jD 5 (by omega) _ _ x rfl rfl x0 x1
theorem and1(x:Int)(x0:0<=x)(x1:x<4294967296):bits .and .u32 x 1=x%2:=jD 1 (by omega) _ _ x rfl rfl x0 x1
theorem zpp(x:Int)(x0:0<=x)(x1:x<4294967296):bits .and .u32 x 15=x%16:=jD 4 (by omega) _ _ x rfl rfl x0 x1
theorem zpq(x:Int)(x0:0<=x)(x1:x<4294967296):bits .and .u32 x 63=x%64:=jD 6 (by omega) _ _ x rfl rfl x0 x1
theorem zge(x:Int)(x0:0<=x)(x1:x<4294967296):bits .and .u32 x 127=x%128:=jD 7 (by omega) _ _ x rfl rfl x0 x1
theorem zna(x:Int)(x0:0<=x)(x1:x<4294967296):bits .and .u32 x 255=x%256:=jD 8 (by omega) _ _ x rfl rfl x0 x1
theorem zk4(x:Int)(x0:0<=x)(x1:x<4294967296):bits .and .u32 x 1023=x%1024:=jD 10 (by omega) _ _ x rfl rfl x0 x1
theorem zk5(x:Int)(x0:0<=x)(x1:x<4294967296):bits .and .u32 x 4095=x%4096:=jD 12 (by omega) _ _ x rfl rfl x0 x1
theorem znb(x:Int)(x0:0<=x)(x1:x<4294967296):bits .and .u32 x 1048575=x%1048576:=jD 20 (by omega) _ _ x rfl rfl x0 x1
theorem znc(x:Int)(x0:0<=x)(x1:x<4294967296):bits .and .u32 x 4294967295=x:=by
 have:=jD 32 (by omega) 4294967295 4294967296 x rfl rfl x0 x1
 omega
theorem zcU(x m i:Nat):x&&& (m*2^i)=(x/2^i&&& m)*2^i:=by
 apply Nat.eq_of_testBit_eq
 intro k
 rw[Nat.testBit_and,Nat.testBit_mul_two_pow,Nat.testBit_mul_two_pow,Nat.testBit_and,Nat.testBit_div_two_pow]
 by_cases h:i<=k
 ·simp[h]
 ·simp[h]
theorem zgf(x:Int)(x0:0<=x)(x1:x<4294967296):bits .and .u32 x 28799=x%128+x/4096%8*4096:=by
 rw[u32_and x _ x0 x1 (by omega) (by omega)]
 obtain⟨n,rfl⟩:=Int.eq_ofNat_of_zero_le x0
 show((n&&& 28799:Nat):Int)=_
 have e:(28799:Nat)=7*2^12|||127:=by decide
 rw[e,Nat.and_or_distrib_left,zcU,nat_mask7,nat_mask3,nat_join 12 _ _ (by simp) (by omega)]
 omega
theorem zks(x:Int)(x0:0<=x)(x1:x<4294967296):bits .and .u32 x 4261441663=x%128+x/4096%8*4096+x/33554432*33554432:=by
 rw[u32_and x _ x0 x1 (by omega) (by omega)]
 obtain⟨n,rfl⟩:=Int.eq_ofNat_of_zero_le x0
 show((n&&& 4261441663:Nat):Int)=_
 have e:(4261441663:Nat)=127*2^25|||(7*2^12|||127):=by decide
 rw[e,Nat.and_or_distrib_left,Nat.and_or_distrib_left,zcU,zcU,nat_mask7,nat_mask7,nat_mask3,nat_join 12 (n/2^12%8*2^12) (n%128) (by simp) (by omega),nat_join 25 _ _ (by simp) (by omega)]
 omega
end Go.Proofs.YtpiohehijkpghabGreatDoor.Hy
namespace Go.Proofs.YtpiohehijkpghabGreatDoor
open Go.RowKit
open Hy
def ldn(op:Int):Int:=if op=11\/op=14 then 1 else if op=12\/op=15 then 2 else if op=13 then 4 else 0
def stn(op:Int):Int:=if op=16 then 1 else if op=17 then 2 else if op=18 then 4 else 0
theorem jm(op:Int):ldn op=0\/ldn op=1\/ldn op=2\/ldn op=4:=by unfold ldn;split<;>(try split)<;>(try split)<;>omega
theorem jL(op:Int):stn op=0\/stn op=1\/stn op=2\/stn op=4:=by unfold stn;split<;>(try split)<;>(try split)<;>omega
theorem jg(op:Int)(w:World):
  Calls prog 70 #[.int .i64 op] w fun e w'=>e=.returned (.int .u32 (ldn op))/\w'=w:=by
 go_enter func70,ntmps70
 go_wp2
 all_goals(go_ret;refine⟨?_,rfl⟩;simp_all[ldn])
theorem zag(op:Int)(w:World):
  Calls prog 119 #[.int .i64 op] w fun e w'=>e=.returned (.int .u32 (stn op))/\w'=w:=by
 go_enter func119,ntmps119
 go_wp2
 all_goals(go_ret;refine⟨?_,rfl⟩;simp_all[stn])
theorem zah(op:Int)(w:World):
  Calls prog 31 #[.int .i64 op,.bool false] w fun e w'=>e=.returned (.int .i64 (ldn op))/\w'=w:=by
 go_enter func31,ntmps31
 go_wp2
 all_goals(go_ret;refine⟨?_,rfl⟩;simp_all[ldn])
theorem jo(op:Int)(w:World):
  Calls prog 31 #[.int .i64 op,.bool true] w fun e w'=>e=.returned (.int .i64 (stn op))/\w'=w:=by
 go_enter func31,ntmps31
 go_wp2
 all_goals(go_ret;refine⟨?_,rfl⟩;simp_all[stn])
theorem xt(p:Option Addr)(n c:Nat)(a m:Int)(hn:n<=140737488355328)(a0:0<=a)(a1:a<=4294967295)(hm:m=0\/m=1\/m=2\/m=4)(w:World):
  Calls prog 120 #[.slice p n c,.int .u32 a,.int .u32 m] w fun e w'=>e=.returned (.bool (decide (0<m/\a%m=0/\a+m<=n)))/\w'=w:=by
 rcases hm with rfl|rfl|rfl|rfl
 all_goals go_enter func120,ntmps120
 all_goals go_wp2
 all_goals(go_ret;refine⟨?_,rfl⟩;simp;try omega)
theorem xY(p:Option Addr)(n c:Nat)(a m:Int)(hn:n<=140737488355328)(a0:0<=a)(a1:a<=4294967295)(hm:m=0\/m=1\/m=2\/m=4)(w:World):
  Calls prog 52 #[.slice p n c,.int .u32 a,.int .i64 m] w fun e w'=>e=.returned (.bool (decide (0<m/\a%m=0/\a+m<=n)))/\w'=w:=by
 rcases hm with rfl|rfl|rfl|rfl
 all_goals go_enter func52,ntmps52
 all_goals go_wp2
 all_goals(go_ret;refine⟨?_,rfl⟩;simp;try omega)
def le(f:Nat->Int):Nat->Int
 |0=>0
 |1=>f 0
 |2=>f 0+f 1*256
 |3=>f 0+f 1*256+f 2*65536
 |_=>f 0+f 1*256+f 2*65536+f 3*16777216
theorem zbI(i:Nat)(P a b:Int)(hP:P=((2^i:Nat):Int))(hi:i<=32)(a0:0<=a)(a1:a<P)(b0:0<=b)(b1:b<4294967296)(hb:b%P=0):bits .or .u32 a b=a+b:=by
 have hle:P<=4294967296:=by
  subst hP
  have:2^i<=2^32:=Nat.pow_le_pow_right (by omega) hi
  omega
 exact qk i 32 hi P 4294967296 a b hP rfl a0 (by omega) (by rw[Int.emod_eq_of_lt a0 (by omega)];exact a1) b0 b1 b1 hb
theorem ziJ(f:Nat->Int)(b0:0<=f 0/\f 0<=255):bits .or .u32 (le f 0) (f 0)=le f 1:=by
 show bits .or .u32 0 (f 0)=f 0
 rw[zbI 0 1 0 (f 0) rfl (by omega) (by omega) (by omega) b0.1 (by omega) (by omega)]
 omega
theorem ziK(f:Nat->Int)(b0:0<=f 0/\f 0<=255)(b1:0<=f 1/\f 1<=255):bits .or .u32 (le f 1) (f 1*256)=le f 2:=
 zbI 8 256 (f 0) (f 1*256) rfl (by omega) b0.1 (by omega) (by omega) (by omega) (by omega)
theorem ziL(f:Nat->Int)(b0:0<=f 0/\f 0<=255)(b1:0<=f 1/\f 1<=255)(b2:0<=f 2/\f 2<=255):bits .or .u32 (le f 2) (f 2*65536)=le f 3:=
 zbI 16 65536 (f 0+f 1*256) (f 2*65536) rfl (by omega) (by omega) (by omega) (by omega) (by omega) (by omega)
theorem ziM(f:Nat->Int)(b0:0<=f 0/\f 0<=255)(b1:0<=f 1/\f 1<=255)(b2:0<=f 2/\f 2<=255)(b3:0<=f 3/\f 3<=255):bits .or .u32 (le f 3) (f 3*16777216)=le f 4:=
 zbI 24 16777216 (f 0+f 1*256+f 2*65536) (f 3*16777216) rfl (by omega) (by omega) (by omega) (by omega) (by omega) (by omega)
theorem xG{a b:Int}(h:a=b)(c:Bool):Ending.returned (.tuple #[.int .u32 a,.bool c])=.returned (.tuple #[.int .u32 b,.bool c]):=by rw[h]
theorem int_eq{k:IntKind}{a b:Int}(h:a=b):Value.int k a=Value.int k b:=by rw[h]
theorem zeV(g o n c:Nat)(m:Nat)(f:Nat->Int)(hm:m=1\/m=2\/m=4)(hmn:m<=n)(hn:n<=140737488355328)(hf:∀i,i<m->0<=f i/\f i<=255)(w:World)(hc:∀i,i<m->w.cell? ⟨g,o+i,none⟩=some (.int .u8 (f i))):
  Calls prog 128 #[.slice (some ⟨g,o,none⟩) n c,.int .u32 m] w fun e w'=>e=.returned (.int .u32 (le f m))/\w'=w:=by
 go_enter func128,ntmps128
 go_wp2
 go_loop [5,6,8] (fun t i k=>∃j:Nat,j<=m/\k=.int .u32 j/\t=.int .u32 (le f j)) (fun _ _ k=>m-(intOf k).toNat)
 case atStart=>exact⟨0,by omega,rfl,rfl⟩
 case round=>
  obtain⟨j,hj,rfl,rfl⟩:=hrel
  obtain⟨T,hT⟩:∃T,T=le f j:=⟨_,rfl⟩
  have HT:Hid (T=le f j):=hT
  rw[<-hT]
  clear hT
  by_cases hlt:j<m
  ·rcases(by omega:j=0\/j=1\/j=2\/j=3)with rfl|rfl|rfl|rfl
   ·obtain⟨z,hz⟩:∃z,z=f 0:=⟨_,rfl⟩
    have c0:w.cell? ⟨g,o,none⟩=some (.int .u8 (f 0)):=hc 0 (by omega)
    have b0:=hf 0 (by omega)
    rw[<-hz]at c0 b0
    have hA:Hid (z=f 0):=hz
    have HF:Hid (∀i,i<m->0<=f i/\f i<=255):=hf
    clear hc hf hz
    go_wp2
    go_round
    case rel=>exact⟨1,by omega,by go_num,int_eq (by rw[HT.out,hA.out];exact ziJ f (HF.out 0 (by omega)))⟩
    case measure=>simp[intOf];omega
   ·obtain⟨z,hz⟩:∃z,z=f 1:=⟨_,rfl⟩
    have c0:w.cell? ⟨g,o+1,none⟩=some (.int .u8 (f 1)):=hc 1 (by omega)
    have b0:=hf 1 (by omega)
    rw[<-hz]at c0 b0
    have hA:Hid (z=f 1):=hz
    have HF:Hid (∀i,i<m->0<=f i/\f i<=255):=hf
    clear hc hf hz
    go_wp2
    go_round
    case rel=>exact⟨2,by omega,by go_num,int_eq (by rw[HT.out,hA.out];exact ziK f (HF.out 0 (by omega)) (HF.out 1 (by omega)))⟩
    case measure=>simp[intOf];omega
   ·obtain⟨z,hz⟩:∃z,z=f 2:=⟨_,rfl⟩
    have c0:w.cell? ⟨g,o+2,none⟩=some (.int .u8 (f 2)):=hc 2 (by omega)
    have b0:=hf 2 (by omega)
    rw[<-hz]at c0 b0
    have hA:Hid (z=f 2):=hz
    have HF:Hid (∀i,i<m->0<=f i/\f i<=255):=hf
    clear hc hf hz
    go_wp2
    go_round
    case rel=>exact⟨3,by omega,by go_num,int_eq (by rw[HT.out,hA.out];exact ziL f (HF.out 0 (by omega)) (HF.out 1 (by omega)) (HF.out 2 (by omega)))⟩
    case measure=>simp[intOf];omega
   ·obtain⟨z,hz⟩:∃z,z=f 3:=⟨_,rfl⟩
    have c0:w.cell? ⟨g,o+3,none⟩=some (.int .u8 (f 3)):=hc 3 (by omega)
    have b0:=hf 3 (by omega)
    rw[<-hz]at c0 b0
    have hA:Hid (z=f 3):=hz
    have HF:Hid (∀i,i<m->0<=f i/\f i<=255):=hf
    clear hc hf hz
    go_wp2
    go_round
    case rel=>exact⟨4,by omega,by go_num,int_eq (by rw[HT.out,hA.out];exact ziM f (HF.out 0 (by omega)) (HF.out 1 (by omega)) (HF.out 2 (by omega)) (HF.out 3 (by omega)))⟩
    case measure=>simp[intOf];omega
  ·obtain rfl:j=m:=by omega
   go_wp2
   go_ret
   exact⟨congrArg Ending.returned (int_eq HT.out),rfl⟩
def Lies(w:World)(g o n:Nat)(f:Nat->Int):Prop:=∀i,i<n->w.cell? ⟨g,o+i,none⟩=some (.int .u8 (f i))
def ldv(op:Int)(f:Nat->Int):Int:=if op=11 then(if f 0<128 then f 0 else f 0+4294967040)else if op=12 then(if le f 2<32768 then le f 2 else le f 2+4294901760)else le f (ldn op).toNat
theorem zgg(p:Option Addr)(n c:Nat)(op a:Int)(hn:n<=140737488355328)(a0:0<=a)(a1:a<=4294967295)(h:¬(0<ldn op/\a%ldn op=0/\a+ldn op<=n))(w:World):
  Calls prog 94 #[.slice p n c,.int .i64 op,.int .u32 a] w fun e w'=>e=.returned (.tuple #[.int .u32 0,.bool false])/\w'=w:=by
 have hd:decide (0<ldn op/\a%ldn op=0/\a+ldn op<=n)=false:=decide_eq_false h
 have hm:=jm op
 have H:Hid (ldn op=ldn op):=rfl
 obtain⟨m,hM⟩:∃m,m=ldn op:=⟨_,rfl⟩
 have C1:=jg op
 rw[<-hM]at hd hm C1
 have C2:=fun w=>xt p n c a m hn a0 a1 hm w
 rw[hd]at C2
 clear hM h hd hm
 go_enter func94,ntmps94
 go_wp2_with fail
 refine(C1 _).mono ?_
 rintro e w' ⟨rfl,rfl⟩
 go_wp2_with fail
 refine(C2 _).mono ?_
 rintro e w' ⟨rfl,rfl⟩
 go_wp2_with fail
 go_ret2
 exact⟨rfl,rfl⟩
theorem zk6(f:Nat->Int)(hf:∀i,i<2->0<=f i/\f i<=255):0<=le f 2/\le f 2<=65535:=by
 have h0:=hf 0 (by omega)
 have h1:=hf 1 (by omega)
 show 0<=f 0+f 1*256/\f 0+f 1*256<=65535
 omega
theorem zk7(L:Int)(h0:128<=L)(h1:L<=255):IntKind.i8.wrap L=L-256:=by
 simp[IntKind.wrap,IntKind.bits,IntKind.signed];omega
theorem ziN(L:Int)(h0:32768<=L)(h1:L<=65535):IntKind.i16.wrap L=L-65536:=by
 simp[IntKind.wrap,IntKind.bits,IntKind.signed];omega
theorem zdU(g o n c:Nat)(op:Int)(a m:Nat)(f:Nat->Int)(hM:ldn op=(m:Int))(hn:n<=140737488355328)(a1:a<=4294967295)(h0:0<m)(h1:a%m=0)(h2:a+m<=n)(hnc:n<=c)(w:World)
  (hf:∀i,i<m->0<=f i/\f i<=255) (hc:Lies w g (o+a) m f):
  Calls prog 94 #[.slice (some ⟨g,o,none⟩) n c,.int .i64 op,.int .u32 a] w fun e w'=>e=.returned (.tuple #[.int .u32 (ldv op f),.bool true])/\w'=w:=by
 have hm':=jm op
 have hm:m=1\/m=2\/m=4:=by omega
 have C1:=jg op
 rw[hM]at C1 hm'
 have C2:=fun w=>xt (some ⟨g,o,none⟩) n c a m hn (by omega) (by omega) hm' w
 have hd:decide (0<(m:Int)/\(a:Int)%m=0/\(a:Int)+m<=n)=true:=decide_eq_true ⟨by omega,by omega,by omega⟩
 rw[hd]at C2
 have C3:=fun w hc=>zeV g (o+a) (n-a) (c-a) m f hm (by omega) (by omega) hf w hc
 clear hd hm'
 obtain⟨L,hL⟩:∃L,L=le f m:=⟨_,rfl⟩
 have HL:Hid (L=le f m):=hL
 rw[<-hL]at C3
 clear hL
 go_enter func94,ntmps94
 go_wp2_with fail
 refine(C1 _).mono ?_
 rintro e w' ⟨rfl,rfl⟩
 go_wp2_with fail
 refine(C2 _).mono ?_
 rintro e w' ⟨rfl,rfl⟩
 go_wp2_with fail
 refine(C3 _ hc).mono ?_
 rintro e w' ⟨rfl,rfl⟩
 clear C1 C2 C3 hc
 by_cases e1:op=11
 ·have hml:m=1:=by subst e1;simp[ldn]at hM;omega
  subst hml
  have hl:L=f 0:=HL.out
  have b0:=hf 0 (by omega)
  rw[<-hl]at b0
  have HV:Hid (ldv op f=if L<128 then L else L+4294967040):=by show ldv op f=_;rw[hl,ldv,if_pos e1]
  clear hl hf HL
  by_cases hs:L<128
  ·rw[if_pos hs]at HV
   go_wp2_with fail
   go_ret2
   exact⟨xG HV.out.symm true,rfl⟩
  ·rw[if_neg hs]at HV
   have hw:IntKind.i8.wrap L%4294967296=L+4294967040:=by rw[zk7 L (by omega) (by omega)];omega
   go_wp2_with fail
   rw[hw]
   go_ret2
   exact⟨xG HV.out.symm true,rfl⟩
 ·by_cases e2:op=12
  ·have hml:m=2:=by subst e2;simp[ldn]at hM;omega
   subst hml
   have hl:L=le f 2:=HL.out
   have b0:=zk6 f hf
   rw[<-hl]at b0
   have HV:Hid (ldv op f=if L<32768 then L else L+4294901760):=by show ldv op f=_;rw[hl,ldv,if_neg e1,if_pos e2]
   clear hl hf HL
   by_cases hs:L<32768
   ·rw[if_pos hs]at HV
    go_wp2_with fail
    go_ret2
    exact⟨xG HV.out.symm true,rfl⟩
   ·rw[if_neg hs]at HV
    have hw:IntKind.i16.wrap L%4294967296=L+4294901760:=by rw[ziN L (by omega) (by omega)];omega
    go_wp2_with fail
    rw[hw]
    go_ret2
    exact⟨xG HV.out.symm true,rfl⟩
  ·have HV:Hid (ldv op f=L):=by
    show ldv op f=L
    rw[HL.out,ldv,if_neg e1,if_neg e2,hM];rfl
   clear HL hf hM
   go_wp2_with fail
   go_ret2
   exact⟨xG HV.out.symm true,rfl⟩
end Go.Proofs.YtpiohehijkpghabGreatDoor
namespace Go.Proofs.YtpiohehijkpghabGreatDoor.Hy
open Go.RowKit
def sg(a:Int):Int:=if a<2147483648 then a else a-4294967296
def two(n:Nat):Int:=((2^n:Nat):Int)
def alu(op a b:Int):Int:=
 if op=28 then(a+b)%4294967296
 else if op=29 then(a-b)%4294967296
 else if op=30 then(a*two (b%32).toNat)%4294967296
 else if op=31 then(if sg a<sg b then 1 else 0)
 else if op=32 then(if a<b then 1 else 0)
 else if op=33 then((a.toNat^^^b.toNat:Nat):Int)
 else if op=34 then a/two (b%32).toNat
 else if op=35 then(sg a/two (b%32).toNat)%4294967296
 else if op=36 then((a.toNat|||b.toNat:Nat):Int)
 else if op=37 then((a.toNat&&& b.toNat:Nat):Int)
 else if op=38 then(a*b)%4294967296
 else if op=39 then(sg a*sg b/4294967296)%4294967296
 else if op=40 then(sg a*b/4294967296)%4294967296
 else if op=41 then(a*b/4294967296)%4294967296
 else if op=42 then(if b=0 then 4294967295 else(sg a).tdiv (sg b)%4294967296)
 else if op=43 then(if b=0 then 4294967295 else a/b)
 else if op=44 then(if b=0 then a else(sg a).tmod (sg b)%4294967296)
 else if op=45 then(if b=0 then a else a%b)
 else 0
def holds(op a b:Int):Bool:=
 if op=5 then a==b
 else if op=6 then a != b
 else if op=7 then decide (sg a<sg b)
 else if op=8 then !decide (sg a<sg b)
 else if op=9 then decide (a<b)
 else if op=10 then decide (b<=a)
 else false
theorem zg(a:Int)(a0:0<=a)(a1:a<=4294967295):-2147483648<=sg a/\sg a<=2147483647:=by
 unfold sg;split<;>omega
theorem zgh(a:Int)(a0:0<=a)(a1:a<=4294967295):wrap32 a=sg a:=by
 unfold wrap32 sg;split<;>omega
theorem zY(a:Int)(a0:0<=a)(a1:a<=4294967295):wrap64 (wrap32 a)=sg a:=by
 rw[zgh a a0 a1]
 have:=zg a a0 a1
 unfold wrap64;omega
theorem zaG(a:Int)(a0:0<=a)(a1:a<=4294967295):sg a=0↔a=0:=by
 unfold sg;split<;>omega
theorem zkt(a:Int)(a0:0<=a)(a1:a<=4294967295):sg a%4294967296=a:=by
 unfold sg;split<;>omega
theorem qU(n:Nat):0<two n:=by
 unfold two;have:=Nat.two_pow_pos n;omega
theorem ziO(n:Nat):two (n+1)=two n+two n:=by
 unfold two;rw[Nat.pow_succ];omega
theorem zdV{m n:Nat}(h:m<=n):two m<=two n:=by
 unfold two;have:=Nat.pow_le_pow_right (n:=2) (by omega) h;omega
theorem zku:two 32=4294967296:=by decide
theorem xZ(n:Nat)(h:n<=32):two n<=4294967296:=by
 have:=zdV h;rw[zku]at this;exact this
theorem zk8(m n:Nat):two (m+n)=two m*two n:=by
 unfold two;rw[Nat.pow_add];simp
theorem zcV(n:Nat):(2:Int)^n=two n:=by
 unfold two;simp
theorem low5(b:Int)(b0:0<=b)(b1:b<=4294967295):bits .and .u32 b 31=b%32:=by
 rw[u32_and b 31 b0 (by omega) (by omega) (by omega)]
 show((b.toNat&&& 31:Nat):Int)=_
 rw[nat_mask5];omega
theorem znd(a:Int)(s:Nat)(hs:s<=32):(a%two (32-s))*two s=(a*two s)%4294967296:=by
 have h:(4294967296:Int)=two (32-s)*two s:=by rw[<-zk8,<-zku];congr 1;omega
 rw[h,Int.mul_comm a,Int.mul_comm (two (32-s)),Int.mul_emod_mul_of_pos _ _ (qU s),Int.mul_comm]
theorem zk9(a b:Int)(a0:0<=a)(a1:a<=4294967295)(b0:0<=b)(b1:b<=4294967295):(sg a*sg b)%4294967296=(a*b)%4294967296:=by
 rw[Int.mul_emod,zkt a a0 a1,zkt b b0 b1]
theorem xu(x y:Int)(m n:Int)(hx0:-m<=x)(hx1:x<=m)(hy0:-n<=y)(hy1:y<=n):-(m*n)<=x*y/\x*y<=m*n:=by
 have hm:0<=m:=by omega
 have hn:0<=n:=by omega
 have h:(x*y).natAbs<=(m*n).natAbs:=by
  rw[Int.natAbs_mul,Int.natAbs_mul]
  exact Nat.mul_le_mul (by omega) (by omega)
 have h2:0<=m*n:=Int.mul_nonneg hm hn
 omega
theorem upper_eq(a high low:Int):(a*high+a*low/65536)/65536=(a*(high*65536+low))/4294967296:=by
 rw[Int.mul_add,<-Int.mul_assoc]
 generalize a*high=p
 generalize a*low=q
 omega
def bitop(op:Int)(p q:Bool):Bool:=if op=37 then p&&q else if op=36 then p||q else p^^q
def natop(op:Int)(x y:Nat):Nat:=if op=37 then x&&& y else if op=36 then x|||y else x^^^y
theorem zbJ(op:Int)(x y i:Nat):(natop op x y/2^i%2=1)↔bitop op (decide (x/2^i%2=1)) (decide (y/2^i%2=1))=true:=by
 have t (z:Nat):decide (z/2^i%2=1)=z.testBit i:=by
  rw[Nat.testBit_eq_decide_div_mod_eq]
 rw[t x,t y]
 refine(decide_eq_true_iff (p:=natop op x y/2^i%2=1)).symm.trans ?_
 rw[t (natop op x y)]
 unfold natop bitop
 split
 ·rw[Nat.testBit_and]
 ·split
  ·rw[Nat.testBit_or]
  ·rw[Nat.testBit_xor]
theorem zaH(op:Int)(x y n:Nat)(hx:x<2^n)(hy:y<2^n):natop op x y<2^n:=by
 unfold natop
 split
 ·exact Nat.and_lt_two_pow _ hy
 ·split
  ·exact Nat.or_lt_two_pow hx hy
  ·exact Nat.xor_lt_two_pow hx hy
theorem zcW(op:Int)(x y i:Nat):((natop op x y%2^(i+1):Nat):Int)
  =((natop op x y%2^i:Nat):Int)+(if bitop op (decide (x/2^i%2=1)) (decide (y/2^i%2=1))=true then two i else 0):=by
 rw[Nat.mod_pow_succ]
 by_cases h:natop op x y/2^i%2=1
 ·rw[if_pos ((zbJ op x y i).1 h),h];unfold two;omega
 ·rw[if_neg (fun g=>h ((zbJ op x y i).2 g))]
  have:natop op x y/2^i%2=0:=by omega
  rw[this];omega
theorem kO(x y:Int)(m:Int)(hx0:-m<=x)(hx1:x<=m):-m<=x.tdiv y/\x.tdiv y<=m:=by
 have h:(x.tdiv y).natAbs<=x.natAbs:=by rw[Int.natAbs_tdiv];exact Nat.div_le_self _ _
 omega
theorem zkv(x y:Int):x-x.tdiv y*y=x.tmod y:=by
 rw[Int.tmod_def,Int.mul_comm y]
theorem zai(x y:Int)(m:Int)(hx0:-m<=x)(hx1:x<=m):-m<=x.tmod y/\x.tmod y<=m:=by
 have h:(x.tmod y).natAbs<=x.natAbs:=by rw[Int.natAbs_tmod];exact Nat.mod_le _ _
 omega
theorem zpr(n:Int):(if n.tmod 4294967296<0 then n.tmod 4294967296+4294967296 else n.tmod 4294967296)=n%4294967296:=by
 rw[Int.tmod_eq_emod]
 have:n%4294967296<4294967296:=Int.emod_lt_of_pos _ (by decide)
 have:0<=n%4294967296:=Int.emod_nonneg _ (by decide)
 have:(4294967296:Int)∣n↔n%4294967296=0:=Int.dvd_iff_emod_eq_zero
 by_cases h0:0<=n
 ·simp[h0];omega
 ·by_cases hd:(4294967296:Int)∣n
  ·simp[hd];omega
  ·simp[h0,hd];omega
def Wd(n:Int):Prop:=0<=n/\n<=4294967295
theorem qp{c:Prop}[Decidable c]{x y:Int}(hx:c->Wd x)(hy:¬c->Wd y):Wd (if c then x else y):=by
 split
 ·exact hx ‹_›
 ·exact hy ‹_›
theorem xH(n:Int):Wd (n%4294967296):=by unfold Wd;omega
theorem ka(n:Int)(h:0<=n/\n<=4294967295):Wd n:=h
theorem zcX(o a b:Int)(a0:0<=a)(a1:a<=4294967295)(b0:0<=b)(b1:b<=4294967295):Wd ((natop o a.toNat b.toNat:Nat):Int):=by
 have:=zaH o a.toNat b.toNat 32 (by omega) (by omega)
 unfold Wd;omega
theorem zdW(a b:Int)(a0:0<=a)(a1:a<=4294967295)(b0:0<=b):Wd (a/b):=by
 have h2:=Int.ediv_nonneg a0 b0
 have h3:=Int.ediv_le_self b a0
 unfold Wd;omega
theorem zgi(a b:Int)(b1:b<=4294967295)(b0:0<b):Wd (a%b):=by
 have h1:=Int.emod_nonneg a (b:=b) (by omega)
 have h2:=Int.emod_lt_of_pos a (b:=b) (by omega)
 unfold Wd;omega
theorem yN(op a b:Int)(a0:0<=a)(a1:a<=4294967295)(b0:0<=b)(b1:b<=4294967295):0<=alu op a b/\alu op a b<=4294967295:=by
 show Wd (alu op a b)
 unfold alu
 refine qp (fun _=>xH _) fun _=>?_
 refine qp (fun _=>xH _) fun _=>?_
 refine qp (fun _=>xH _) fun _=>?_
 refine qp (fun _=>qp (fun _=>ka _ (by omega)) (fun _=>ka _ (by omega))) fun _=>?_
 refine qp (fun _=>qp (fun _=>ka _ (by omega)) (fun _=>ka _ (by omega))) fun _=>?_
 refine qp (fun _=>zcX 33 a b a0 a1 b0 b1) fun _=>?_
 refine qp (fun _=>zdW _ _ a0 a1 (Int.le_of_lt (qU _))) fun _=>?_
 refine qp (fun _=>xH _) fun _=>?_
 refine qp (fun _=>zcX 36 a b a0 a1 b0 b1) fun _=>?_
 refine qp (fun _=>zcX 37 a b a0 a1 b0 b1) fun _=>?_
 refine qp (fun _=>xH _) fun _=>?_
 refine qp (fun _=>xH _) fun _=>?_
 refine qp (fun _=>xH _) fun _=>?_
 refine qp (fun _=>xH _) fun _=>?_
 refine qp (fun _=>qp (fun _=>ka _ (by omega)) (fun _=>xH _)) fun _=>?_
 refine qp (fun _=>qp (fun _=>ka _ (by omega)) (fun _=>zdW _ _ a0 a1 b0)) fun _=>?_
 refine qp (fun _=>qp (fun _=>ka _ (by omega)) (fun _=>xH _)) fun _=>?_
 refine qp (fun _=>qp (fun _=>ka _ (by omega)) (fun _=>zgi _ _ b1 (by omega))) fun _=>?_
 exact ka _ (by omega)
end Go.Proofs.YtpiohehijkpghabGreatDoor.Hy
