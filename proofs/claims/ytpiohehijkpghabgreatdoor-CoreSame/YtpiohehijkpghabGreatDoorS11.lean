/- Harts and bytes as a law's arguments; the two tables out of the row's list. -/
import Derived.OpenShut
import Derived.SizedLaws
import Derived.Test.YtpiohehijkpghabGreatDoorS10
import Derived.Test.YtpiohehijkpghabGreatDoorS04
import Derived.Test.YtpiohehijkpghabGreatDoorS05
set_option maxRecDepth 100000
set_option linter.unusedSimpArgs false
set_option linter.unusedVariables false
open Go.Proofs.Tryz
namespace Go.Proofs.YtpiohehijkpghabGreatDoor
open Go.RowKit
open Hy
abbrev cC(c:Cm):Array Value:=ccs c.pc c.next c.st c.ca c.rd c.val c.pl c.many c.data c.out c.told
abbrev cvC(c:Cm):Value:=.agg (cC c)
abbrev ivI(i:In):Value:=iv i.op i.rd i.s1 i.s2 i.im
structure InOk(i:In):Prop where
 lr:i.rd<32
 l1:i.s1<32
 l2:i.s2<32
 i0:-2147483648<=i.im
 i1:i.im<=2147483647
 o0:1<=i.op
 o1:i.op<=48
theorem ja(c:Cm):(cC c).size=11/\Ones (cC c):=⟨rfl,qZ _ _ _ _ _ _ _ _ _ _ _⟩
structure Bys(w:World)(p:Option Addr)(n c:Nat)(f:Nat->Int):Prop where
 hn:n<=4096
 hnc:n<=c
 hm:Mem w p n f
 hf:∀i,i<n->0<=f i/\f i<=255
theorem Bys.below{w w':World}{p:Option Addr}{n c:Nat}{f:Nat->Int}(h:Bys w p n c f)(hb:Below w.heap.size w w'):Bys w' p n c f:=⟨h.hn,h.hnc,h.hm.below hb,h.hf⟩
theorem jM{w:World}{p:Option Addr}{n c:Nat}{f:Nat->Int}(o:Bys w p n c f)(op:Int)(a:Nat)(a1:(a:Int)<=4294967295)(ho:0<ldn op/\(a:Int)%ldn op=0/\(a:Int)+ldn op<=n):
  ∀W,Below w.heap.size w W->Calls prog 94 #[.slice p n c,.int .i64 op,.int .u32 a] W fun e w'=>e=.returned (.tuple #[.int .u32 (ldv op (fun i=>f (a+i))),.bool true])/\w'=W:=by
 have hn:=o.hn
 obtain⟨m,hm⟩:=Int.eq_ofNat_of_zero_le (show 0<=ldn op by omega)
 have ho':=ho
 rw[hm]at ho'
 obtain⟨g,q,hp,hc⟩:=o.hm (by omega)
 have hf:∀i,i<m->0<=f (a+i)/\f (a+i)<=255:=fun i hi=>o.hf _ (by omega)
 intro W hW
 subst hp
 exact zdU g q n c op a m _ hm (by omega) (by omega) (by omega) (by omega) (by omega) o.hnc W hf (Lies.part (hc.below hW) a m (by omega))
theorem kj{w:World}{p:Option Addr}{n c:Nat}{f:Nat->Int}(o:Bys w p n c f)(op:Int)(a:Nat)(a1:(a:Int)<=4294967295)(ho:¬(0<ldn op/\(a:Int)%ldn op=0/\(a:Int)+ldn op<=n)):
  ∀W,Below w.heap.size w W->Calls prog 94 #[.slice p n c,.int .i64 op,.int .u32 a] W fun e w'=>e=.returned (.tuple #[.int .u32 0,.bool false])/\w'=W:=by
 have hn:=o.hn
 exact fun W _=>zgg p n c op a (by omega) (by omega) (by omega) ho W
theorem xM{w:World}{p:Option Addr}{n c:Nat}{f:Nat->Int}(o:Bys w p n c f)(op:Int)(a K:Nat)(hK:stn op=(K:Int))(a1:(a:Int)<=4294967295)(ho:0<stn op/\(a:Int)%stn op=0/\(a:Int)+stn op<=n):
  ∀W,Calls prog 85 #[.slice p n c,.int .i64 op,.int .u32 a] W fun e w'=>e=.returned (.int .u32 K)/\w'=W:=fun W=>by
 have hn:=o.hn
 have h:=zam p n c op a (by omega) (by omega) (by omega) ho W
 rw[hK]at h
 exact h
theorem kZ{w:World}{p:Option Addr}{n c:Nat}{f:Nat->Int}(o:Bys w p n c f)(op:Int)(a:Nat)(a1:(a:Int)<=4294967295)(ho:¬(0<stn op/\(a:Int)%stn op=0/\(a:Int)+stn op<=n)):
  ∀W,Calls prog 85 #[.slice p n c,.int .i64 op,.int .u32 a] W fun e w'=>e=.returned (.int .u32 0)/\w'=W:=fun W=>by
 have hn:=o.hn
 exact zgo p n c op a (by omega) (by omega) (by omega) ho W
theorem zX{n:Nat}{x m:Int}:fits n x m=true↔0<=x/\x%m=0/\x+m<=n:=by unfold fits;simp
theorem jN(pc nx v:Int)(rd:Nat)(W:World):
  Calls prog 106 #[cv pc nx 0 0 0 0 0 0 0 false 0,.int .i64 rd,.int .u32 v] W fun e w'=>e=.returned (cv pc nx 0 0 rd (if rd=0 then 0 else v) 0 0 0 false 0)/\Below W.heap.size W w':=by
 by_cases h:rd=0
 ·subst h
  exact zd5 pc nx v W
 ·rw[if_neg h]
  exact zbS pc nx v rd (by simp;omega) W
theorem zff(rd s1 s2:Nat)(I pc a b:Int)(p0:0<=pc)(p1:pc<=4294967295)(a0:0<=a)(a1:a<=4294967295)(w:World){p:Option Addr}{n c:Nat}{f:Nat->Int}(o:Bys w p n c f):
  Calls prog 75 #[iv 11 rd s1 s2 I,.int .u32 pc,.int .u32 a,.int .u32 b,.slice p n c] w fun e w'=>e=.returned (cvC (qa n f ⟨11,rd,s1,s2,I⟩ pc a))/\Below w.heap.size w w':=by
 obtain⟨q,hq⟩:=Int.eq_ofNat_of_zero_le (show 0<=(a+I)%4294967296 by omega)
 have hpl:place ⟨11,rd,s1,s2,I⟩ a=(q:Int):=hq
 have q1:(q:Int)<=4294967295:=by omega
 by_cases ho:0<ldn 11/\(q:Int)%ldn 11=0/\(q:Int)+ldn 11<=n
 ·have CM:=jM o 11 q q1 ho
  rw[<-hq]at CM
  have e:qa n f ⟨11,rd,s1,s2,I⟩ pc a=onC pc rd (ldv 11 (fun i=>f (q+i))):=by
   unfold qa
   rw[hpl,if_pos (zX.2 ⟨by omega,ho.2⟩)]
   rfl
  rw[e]
  exact zd7 pc p n c w I a b _ true rd s1 s2 _ (ja _) CM (fun W=>qA 11 I pc _ _ rd s1 s2 W (fun W=>zQ pc p0 p1 W) _ _ (fun W=>jN pc _ _ rd W)) a0 a1
 ·have CM:=kj o 11 q q1 ho
  rw[<-hq]at CM
  have e:qa n f ⟨11,rd,s1,s2,I⟩ pc a=qe pc 3:=by
   unfold qa
   rw[hpl,if_neg (fun h=>ho ⟨by decide,(zX.1 h).2⟩)]
  rw[e]
  exact zd7 pc p n c w I a b _ false rd s1 s2 _ (ja _) CM (fun W=>jh 11 rd s1 s2 I pc _ W) a0 a1
theorem zfg(rd s1 s2:Nat)(I pc a b:Int)(p0:0<=pc)(p1:pc<=4294967295)(a0:0<=a)(a1:a<=4294967295)(w:World){p:Option Addr}{n c:Nat}{f:Nat->Int}(o:Bys w p n c f):
  Calls prog 75 #[iv 12 rd s1 s2 I,.int .u32 pc,.int .u32 a,.int .u32 b,.slice p n c] w fun e w'=>e=.returned (cvC (qa n f ⟨12,rd,s1,s2,I⟩ pc a))/\Below w.heap.size w w':=by
 obtain⟨q,hq⟩:=Int.eq_ofNat_of_zero_le (show 0<=(a+I)%4294967296 by omega)
 have hpl:place ⟨12,rd,s1,s2,I⟩ a=(q:Int):=hq
 have q1:(q:Int)<=4294967295:=by omega
 by_cases ho:0<ldn 12/\(q:Int)%ldn 12=0/\(q:Int)+ldn 12<=n
 ·have CM:=jM o 12 q q1 ho
  rw[<-hq]at CM
  have e:qa n f ⟨12,rd,s1,s2,I⟩ pc a=onC pc rd (ldv 12 (fun i=>f (q+i))):=by
   unfold qa
   rw[hpl,if_pos (zX.2 ⟨by omega,ho.2⟩)]
   rfl
  rw[e]
  exact zd8 pc p n c w I a b _ true rd s1 s2 _ (ja _) CM (fun W=>qA 12 I pc _ _ rd s1 s2 W (fun W=>zQ pc p0 p1 W) _ _ (fun W=>jN pc _ _ rd W)) a0 a1
 ·have CM:=kj o 12 q q1 ho
  rw[<-hq]at CM
  have e:qa n f ⟨12,rd,s1,s2,I⟩ pc a=qe pc 3:=by
   unfold qa
   rw[hpl,if_neg (fun h=>ho ⟨by decide,(zX.1 h).2⟩)]
  rw[e]
  exact zd8 pc p n c w I a b _ false rd s1 s2 _ (ja _) CM (fun W=>jh 12 rd s1 s2 I pc _ W) a0 a1
theorem zfh(rd s1 s2:Nat)(I pc a b:Int)(p0:0<=pc)(p1:pc<=4294967295)(a0:0<=a)(a1:a<=4294967295)(w:World){p:Option Addr}{n c:Nat}{f:Nat->Int}(o:Bys w p n c f):
  Calls prog 75 #[iv 13 rd s1 s2 I,.int .u32 pc,.int .u32 a,.int .u32 b,.slice p n c] w fun e w'=>e=.returned (cvC (qa n f ⟨13,rd,s1,s2,I⟩ pc a))/\Below w.heap.size w w':=by
 obtain⟨q,hq⟩:=Int.eq_ofNat_of_zero_le (show 0<=(a+I)%4294967296 by omega)
 have hpl:place ⟨13,rd,s1,s2,I⟩ a=(q:Int):=hq
 have q1:(q:Int)<=4294967295:=by omega
 by_cases ho:0<ldn 13/\(q:Int)%ldn 13=0/\(q:Int)+ldn 13<=n
 ·have CM:=jM o 13 q q1 ho
  rw[<-hq]at CM
  have e:qa n f ⟨13,rd,s1,s2,I⟩ pc a=onC pc rd (ldv 13 (fun i=>f (q+i))):=by
   unfold qa
   rw[hpl,if_pos (zX.2 ⟨by omega,ho.2⟩)]
   rfl
  rw[e]
  exact zd9 pc p n c w I a b _ true rd s1 s2 _ (ja _) CM (fun W=>qA 13 I pc _ _ rd s1 s2 W (fun W=>zQ pc p0 p1 W) _ _ (fun W=>jN pc _ _ rd W)) a0 a1
 ·have CM:=kj o 13 q q1 ho
  rw[<-hq]at CM
  have e:qa n f ⟨13,rd,s1,s2,I⟩ pc a=qe pc 3:=by
   unfold qa
   rw[hpl,if_neg (fun h=>ho ⟨by decide,(zX.1 h).2⟩)]
  rw[e]
  exact zd9 pc p n c w I a b _ false rd s1 s2 _ (ja _) CM (fun W=>jh 13 rd s1 s2 I pc _ W) a0 a1
theorem zfi(rd s1 s2:Nat)(I pc a b:Int)(p0:0<=pc)(p1:pc<=4294967295)(a0:0<=a)(a1:a<=4294967295)(w:World){p:Option Addr}{n c:Nat}{f:Nat->Int}(o:Bys w p n c f):
  Calls prog 75 #[iv 14 rd s1 s2 I,.int .u32 pc,.int .u32 a,.int .u32 b,.slice p n c] w fun e w'=>e=.returned (cvC (qa n f ⟨14,rd,s1,s2,I⟩ pc a))/\Below w.heap.size w w':=by
 obtain⟨q,hq⟩:=Int.eq_ofNat_of_zero_le (show 0<=(a+I)%4294967296 by omega)
 have hpl:place ⟨14,rd,s1,s2,I⟩ a=(q:Int):=hq
 have q1:(q:Int)<=4294967295:=by omega
 by_cases ho:0<ldn 14/\(q:Int)%ldn 14=0/\(q:Int)+ldn 14<=n
 ·have CM:=jM o 14 q q1 ho
  rw[<-hq]at CM
  have e:qa n f ⟨14,rd,s1,s2,I⟩ pc a=onC pc rd (ldv 14 (fun i=>f (q+i))):=by
   unfold qa
   rw[hpl,if_pos (zX.2 ⟨by omega,ho.2⟩)]
   rfl
  rw[e]
  exact zea pc p n c w I a b _ true rd s1 s2 _ (ja _) CM (fun W=>qA 14 I pc _ _ rd s1 s2 W (fun W=>zQ pc p0 p1 W) _ _ (fun W=>jN pc _ _ rd W)) a0 a1
 ·have CM:=kj o 14 q q1 ho
  rw[<-hq]at CM
  have e:qa n f ⟨14,rd,s1,s2,I⟩ pc a=qe pc 3:=by
   unfold qa
   rw[hpl,if_neg (fun h=>ho ⟨by decide,(zX.1 h).2⟩)]
  rw[e]
  exact zea pc p n c w I a b _ false rd s1 s2 _ (ja _) CM (fun W=>jh 14 rd s1 s2 I pc _ W) a0 a1
theorem zfj(rd s1 s2:Nat)(I pc a b:Int)(p0:0<=pc)(p1:pc<=4294967295)(a0:0<=a)(a1:a<=4294967295)(w:World){p:Option Addr}{n c:Nat}{f:Nat->Int}(o:Bys w p n c f):
  Calls prog 75 #[iv 15 rd s1 s2 I,.int .u32 pc,.int .u32 a,.int .u32 b,.slice p n c] w fun e w'=>e=.returned (cvC (qa n f ⟨15,rd,s1,s2,I⟩ pc a))/\Below w.heap.size w w':=by
 obtain⟨q,hq⟩:=Int.eq_ofNat_of_zero_le (show 0<=(a+I)%4294967296 by omega)
 have hpl:place ⟨15,rd,s1,s2,I⟩ a=(q:Int):=hq
 have q1:(q:Int)<=4294967295:=by omega
 by_cases ho:0<ldn 15/\(q:Int)%ldn 15=0/\(q:Int)+ldn 15<=n
 ·have CM:=jM o 15 q q1 ho
  rw[<-hq]at CM
  have e:qa n f ⟨15,rd,s1,s2,I⟩ pc a=onC pc rd (ldv 15 (fun i=>f (q+i))):=by
   unfold qa
   rw[hpl,if_pos (zX.2 ⟨by omega,ho.2⟩)]
   rfl
  rw[e]
  exact zeb pc p n c w I a b _ true rd s1 s2 _ (ja _) CM (fun W=>qA 15 I pc _ _ rd s1 s2 W (fun W=>zQ pc p0 p1 W) _ _ (fun W=>jN pc _ _ rd W)) a0 a1
 ·have CM:=kj o 15 q q1 ho
  rw[<-hq]at CM
  have e:qa n f ⟨15,rd,s1,s2,I⟩ pc a=qe pc 3:=by
   unfold qa
   rw[hpl,if_neg (fun h=>ho ⟨by decide,(zX.1 h).2⟩)]
  rw[e]
  exact zeb pc p n c w I a b _ false rd s1 s2 _ (ja _) CM (fun W=>jh 15 rd s1 s2 I pc _ W) a0 a1
theorem zdb(rd s1 s2:Nat)(I pc a b:Int)(p0:0<=pc)(p1:pc<=4294967295)(a0:0<=a)(a1:a<=4294967295)(b0:0<=b)(b1:b<=4294967295)(w:World){p:Option Addr}{n c:Nat}{f:Nat->Int}(o:Bys w p n c f):
  Calls prog 75 #[iv 16 rd s1 s2 I,.int .u32 pc,.int .u32 a,.int .u32 b,.slice p n c] w fun e w'=>e=.returned (cvC (doW ⟨16,rd,s1,s2,I⟩ pc a b n))/\Below w.heap.size w w':=by
 obtain⟨q,hq⟩:=Int.eq_ofNat_of_zero_le (show 0<=(a+I)%4294967296 by omega)
 have hpl:place ⟨16,rd,s1,s2,I⟩ a=(q:Int):=hq
 have q1:(q:Int)<=4294967295:=by omega
 have hs:sts ⟨16,rd,s1,s2,I⟩=true:=rfl
 by_cases ho:0<stn 16/\(q:Int)%stn 16=0/\(q:Int)+stn 16<=n
 ·have CM:=xM o 16 q 1 rfl q1 ho
  rw[<-hq]at CM
  have e:doW ⟨16,rd,s1,s2,I⟩ pc a b n=⟨pc,(pc+4)%4294967296,0,0,0,0,(a+I)%4294967296,1,b%p256 1,false,0⟩:=by
   unfold doW
   rw[if_pos hs,if_pos (zX.2 (by rw[hpl];exact⟨by omega,ho.2⟩))]
   rfl
  rw[e]
  exact zbV pc p n c w I a b rd s1 s2 _ (ja _) (fun W hW=>kY 16 rd s1 s2 I pc a b _ _ 1 (by omega) p n c a0 a1 W CM (fun W=>zQ pc p0 p1 W) (fun W=>kW b 1 (by omega) b0 b1 W))
 ·have CM:=kZ o 16 q q1 ho
  rw[<-hq]at CM
  have e:doW ⟨16,rd,s1,s2,I⟩ pc a b n=qe pc 4:=by
   unfold doW
   rw[if_pos hs,if_neg (fun h=>ho (by rw[hpl]at h;exact⟨by decide,(zX.1 h).2⟩))]
  rw[e]
  exact zbV pc p n c w I a b rd s1 s2 _ (ja _) (fun W hW=>yS 16 rd s1 s2 I pc a b p n c a0 a1 W CM)
theorem zdc(rd s1 s2:Nat)(I pc a b:Int)(p0:0<=pc)(p1:pc<=4294967295)(a0:0<=a)(a1:a<=4294967295)(b0:0<=b)(b1:b<=4294967295)(w:World){p:Option Addr}{n c:Nat}{f:Nat->Int}(o:Bys w p n c f):
  Calls prog 75 #[iv 17 rd s1 s2 I,.int .u32 pc,.int .u32 a,.int .u32 b,.slice p n c] w fun e w'=>e=.returned (cvC (doW ⟨17,rd,s1,s2,I⟩ pc a b n))/\Below w.heap.size w w':=by
 obtain⟨q,hq⟩:=Int.eq_ofNat_of_zero_le (show 0<=(a+I)%4294967296 by omega)
 have hpl:place ⟨17,rd,s1,s2,I⟩ a=(q:Int):=hq
 have q1:(q:Int)<=4294967295:=by omega
 have hs:sts ⟨17,rd,s1,s2,I⟩=true:=rfl
 by_cases ho:0<stn 17/\(q:Int)%stn 17=0/\(q:Int)+stn 17<=n
 ·have CM:=xM o 17 q 2 rfl q1 ho
  rw[<-hq]at CM
  have e:doW ⟨17,rd,s1,s2,I⟩ pc a b n=⟨pc,(pc+4)%4294967296,0,0,0,0,(a+I)%4294967296,2,b%p256 2,false,0⟩:=by
   unfold doW
   rw[if_pos hs,if_pos (zX.2 (by rw[hpl];exact⟨by omega,ho.2⟩))]
   rfl
  rw[e]
  exact zbW pc p n c w I a b rd s1 s2 _ (ja _) (fun W hW=>kY 17 rd s1 s2 I pc a b _ _ 2 (by omega) p n c a0 a1 W CM (fun W=>zQ pc p0 p1 W) (fun W=>kW b 2 (by omega) b0 b1 W))
 ·have CM:=kZ o 17 q q1 ho
  rw[<-hq]at CM
  have e:doW ⟨17,rd,s1,s2,I⟩ pc a b n=qe pc 4:=by
   unfold doW
   rw[if_pos hs,if_neg (fun h=>ho (by rw[hpl]at h;exact⟨by decide,(zX.1 h).2⟩))]
  rw[e]
  exact zbW pc p n c w I a b rd s1 s2 _ (ja _) (fun W hW=>yS 17 rd s1 s2 I pc a b p n c a0 a1 W CM)
theorem zdd(rd s1 s2:Nat)(I pc a b:Int)(p0:0<=pc)(p1:pc<=4294967295)(a0:0<=a)(a1:a<=4294967295)(b0:0<=b)(b1:b<=4294967295)(w:World){p:Option Addr}{n c:Nat}{f:Nat->Int}(o:Bys w p n c f):
  Calls prog 75 #[iv 18 rd s1 s2 I,.int .u32 pc,.int .u32 a,.int .u32 b,.slice p n c] w fun e w'=>e=.returned (cvC (doW ⟨18,rd,s1,s2,I⟩ pc a b n))/\Below w.heap.size w w':=by
 obtain⟨q,hq⟩:=Int.eq_ofNat_of_zero_le (show 0<=(a+I)%4294967296 by omega)
 have hpl:place ⟨18,rd,s1,s2,I⟩ a=(q:Int):=hq
 have q1:(q:Int)<=4294967295:=by omega
 have hs:sts ⟨18,rd,s1,s2,I⟩=true:=rfl
 by_cases ho:0<stn 18/\(q:Int)%stn 18=0/\(q:Int)+stn 18<=n
 ·have CM:=xM o 18 q 4 rfl q1 ho
  rw[<-hq]at CM
  have e:doW ⟨18,rd,s1,s2,I⟩ pc a b n=⟨pc,(pc+4)%4294967296,0,0,0,0,(a+I)%4294967296,4,b%p256 4,false,0⟩:=by
   unfold doW
   rw[if_pos hs,if_pos (zX.2 (by rw[hpl];exact⟨by omega,ho.2⟩))]
   rfl
  rw[e]
  exact zbX pc p n c w I a b rd s1 s2 _ (ja _) (fun W hW=>kY 18 rd s1 s2 I pc a b _ _ 4 (by omega) p n c a0 a1 W CM (fun W=>zQ pc p0 p1 W) (fun W=>kW b 4 (by omega) b0 b1 W))
 ·have CM:=kZ o 18 q q1 ho
  rw[<-hq]at CM
  have e:doW ⟨18,rd,s1,s2,I⟩ pc a b n=qe pc 4:=by
   unfold doW
   rw[if_pos hs,if_neg (fun h=>ho (by rw[hpl]at h;exact⟨by decide,(zX.1 h).2⟩))]
  rw[e]
  exact zbX pc p n c w I a b rd s1 s2 _ (ja _) (fun W hW=>yS 18 rd s1 s2 I pc a b p n c a0 a1 W CM)
theorem zjh:∀m,m<28->19<=m->itab.getD m 0=opn m:=by decide
theorem zji:∀m,m<46->5<=m->¬(19<=m/\m<=27)->itab.getD m 0=0:=by decide
theorem znS:∀m:Nat,m<28->19<=m->(opn m != 0)=true:=by decide
theorem zgR(i:In)(h1:1<=i.op)(h2:i.op<46)(pc a b:Int)(p0:0<=pc)(p1:pc<=4294967295)(a0:0<=a)(a1:a<=4294967295)(b0:0<=b)(b1:b<=4294967295)(W:World):
  Calls prog 110 #[ivI i,.int .u32 pc,.int .u32 a,.int .u32 b] W fun e w'=>e=.returned (.int .u32 (nxW i pc a b))/\Below W.heap.size W w':=by
 obtain⟨op,rd,s1,s2,I⟩:=i
 have HB:=fun W=>zgl op a b a0 a1 b0 b1 W
 unfold nxW
 simp only[]at h1 h2⊢
 by_cases e3:op=3
 ·subst e3
  rw[if_pos rfl]
  exact zgL rd s1 s2 I pc a b p0 p1 W
 ·rw[if_neg e3]
  by_cases e4:op=4
  ·subst e4
   rw[if_pos rfl]
   exact zfd rd s1 s2 I pc a b p0 p1 a0 a1 (fun W=>by have h:=HB W;rwa [holds_none _ _ _ (by omega) (by omega) (by omega) (by omega) (by omega) (by omega)]at h) W
  ·rw[if_neg e4]
   cases hb:holds op a b with
   |true=>
    rw[hb]at HB
    rw[if_pos rfl]
    exact zjd op rd s1 s2 I pc a b p0 p1 (beq_eq_false_iff_ne.2 e3) HB W
   |false=>
    rw[hb]at HB
    rw[if_neg (by decide)]
    exact zje op rd s1 s2 I pc a b p0 p1 (beq_eq_false_iff_ne.2 e3) (beq_eq_false_iff_ne.2 e4) HB W
theorem zde(i:In)(h1:1<=i.op)(h2:i.op<46)(pc a b:Int)(p0:0<=pc)(p1:pc<=4294967295)(a0:0<=a)(a1:a<=4294967295)(b0:0<=b)(b1:b<=4294967295)(W:World)(hT2:Tab2 W):
  Calls prog 111 #[ivI i,.int .u32 pc,.int .u32 a,.int .u32 b] W fun e w'=>e=.returned (.int .u32 (rkW i pc a b))/\Below W.heap.size W w':=by
 obtain⟨op,rd,s1,s2,I⟩:=i
 unfold rkW
 simp only[]at h1 h2⊢
 by_cases e1:op=1
 ·subst e1;rw[if_pos rfl];exact zc5 rd s1 s2 I pc a b W
 ·rw[if_neg e1]
  by_cases e2:op=2
  ·subst e2;rw[if_pos rfl];exact zaK rd s1 s2 I pc a b p0 p1 W
  ·rw[if_neg e2]
   by_cases e3:op=3
   ·subst e3;rw[if_pos (.inl rfl)];exact zc6 rd s1 s2 I pc a b p0 p1 W
   ·by_cases e4:op=4
    ·subst e4;rw[if_pos (.inr rfl)];exact zbT rd s1 s2 I pc a b p0 p1 W
    ·rw[if_neg (by omega)]
     obtain⟨m,hm⟩:=Int.eq_ofNat_of_zero_le (show 0<=op by omega)
     subst hm
     by_cases e5:19<=(m:Int)/\(m:Int)<=27
     ·rw[if_pos e5]
      exact zc7 m rd s1 s2 I pc a b (opn m) _ (by omega) (by omega) (zjh m (by omega) (by omega)) (znS m (by omega) (by omega)) (fun W=>zgk (opn m) a (I%4294967296) a0 a1 (by omega) (by omega) W) W hT2
     ·rw[if_neg e5]
      exact zc8 m rd s1 s2 I pc a b _ (by omega) (by omega) (zji m (by omega) (by omega) (by omega)) (fun W=>zgk m a b a0 a1 b0 b1 W) W hT2
theorem zly(i:In)(hi:InOk i)(pc a b:Int)(p0:0<=pc)(p1:pc<=4294967295)(a0:0<=a)(a1:a<=4294967295)(b0:0<=b)(b1:b<=4294967295)(w:World){p:Option Addr}{n c:Nat}{f:Nat->Int}(o:Bys w p n c f)(hT2:Tab2 w):
  Calls prog 75 #[ivI i,.int .u32 pc,.int .u32 a,.int .u32 b,.slice p n c] w fun e w'=>e=.returned (cvC (allW n f i pc a b))/\Below w.heap.size w w':=by
 obtain⟨op,rd,s1,s2,I⟩:=i
 have o0:1<=op:=hi.o0
 have o1:op<=48:=hi.o1
 by_cases hl:11<=op/\op<=15
 ·have e:allW n f ⟨op,rd,s1,s2,I⟩ pc a b=qa n f ⟨op,rd,s1,s2,I⟩ pc a:=by
   unfold allW
   refine if_pos ?_
   show ldn op≠0
   rcases(by omega:op=11\/op=12\/op=13\/op=14\/op=15)with rfl|rfl|rfl|rfl|rfl<;>decide
  rw[e]
  rcases(by omega:op=11\/op=12\/op=13\/op=14\/op=15)with rfl|rfl|rfl|rfl|rfl
  ·exact zff rd s1 s2 I pc a b p0 p1 a0 a1 w o
  ·exact zfg rd s1 s2 I pc a b p0 p1 a0 a1 w o
  ·exact zfh rd s1 s2 I pc a b p0 p1 a0 a1 w o
  ·exact zfi rd s1 s2 I pc a b p0 p1 a0 a1 w o
  ·exact zfj rd s1 s2 I pc a b p0 p1 a0 a1 w o
 ·have e:allW n f ⟨op,rd,s1,s2,I⟩ pc a b=doW ⟨op,rd,s1,s2,I⟩ pc a b n:=by
   unfold allW
   refine if_neg ?_
   show¬(ldn op≠0)
   unfold ldn
   rw[if_neg (by omega),if_neg (by omega),if_neg (by omega)]
   exact fun h=>h rfl
  rw[e]
  by_cases hs:16<=op/\op<=18
  ·rcases(by omega:op=16\/op=17\/op=18)with rfl|rfl|rfl
   ·exact zdb rd s1 s2 I pc a b p0 p1 a0 a1 b0 b1 w o
   ·exact zdc rd s1 s2 I pc a b p0 p1 a0 a1 b0 b1 w o
   ·exact zdd rd s1 s2 I pc a b p0 p1 a0 a1 b0 b1 w o
  ·have hs':¬sts ⟨op,rd,s1,s2,I⟩=true:=by unfold sts;simpa using hs
   unfold doW
   rw[if_neg hs']
   by_cases e46:op=46
   ·subst e46
    rw[if_pos rfl]
    exact zlw pc p n c w I a b rd s1 s2 _ (ja _) (fun W _=>zQ pc p0 p1 W)
   ·rw[if_neg e46]
    by_cases e47:op=47
    ·subst e47
     rw[if_pos rfl]
     by_cases z0:a=0
     ·subst z0
      rw[if_pos rfl]
      exact zgQ pc p n c w I 0 b rd s1 s2 _ (ja _) (fun W _=>zlu pc b W)
     ·rw[if_neg z0]
      by_cases z1:a=1
      ·subst z1
       rw[if_pos rfl]
       exact zgQ pc p n c w I 1 b rd s1 s2 _ (ja _) (fun W _=>zlt pc b _ W (fun W=>zQ pc p0 p1 W))
      ·rw[if_neg z1]
       exact zgQ pc p n c w I a b rd s1 s2 _ (ja _) (fun W _=>zlv pc a b (beq_eq_false_iff_ne.2 z0) (beq_eq_false_iff_ne.2 z1) W)
    ·rw[if_neg e47]
     by_cases e48:op=48
     ·subst e48
      rw[if_pos rfl]
      exact zlx pc p n c w I a b rd s1 s2 _ (ja _) (fun W _=>xh pc 6 W)
     ·rw[if_neg e48]
      exact znR pc p n c w I a b op _ _ rd s1 s2 _ (ja _) o0 (by omega) (by omega) (fun W hW=>zgR ⟨op,rd,s1,s2,I⟩ o0 (by show op<46;omega) pc a b p0 p1 a0 a1 b0 b1 W) (fun W hW=>zde ⟨op,rd,s1,s2,I⟩ o0 (by show op<46;omega) pc a b p0 p1 a0 a1 b0 b1 W (hT2.below hW hT2.size)) (fun W=>jN pc _ _ rd W)
theorem zfk(i:In)(w:World):
  Calls prog 115 #[ivI i] w fun e w'=>e=.returned (.tuple #[.int .i64 (ra i),.int .i64 (rb i)])/\Below w.heap.size w w':=by
 obtain⟨op,rd,s1,s2,I⟩:=i
 unfold ra rb
 simp only[]
 by_cases h:op=47
 ·subst h
  go_enter func115,ntmps115
  go_wp2
  go_ret2
  exact⟨rfl,(Below.refl _ _).alloc (Nat.le_refl _) _⟩
 ·have hq:(op==47)=false:=beq_eq_false_iff_ne.2 h
  rw[if_neg h,if_neg h]
  go_enter func115,ntmps115
  go_wp2
  go_region
  go_wp2
  go_ret2
  exact⟨rfl,((Below.refl _ _).alloc (Nat.le_refl _) _).drew⟩
end Go.Proofs.YtpiohehijkpghabGreatDoor
namespace Go.Proofs.YtpiohehijkpghabGreatDoor
open Go.RowKit
open Hy
theorem fm1:∀m,m<49->(fm (kn m) 1=31\/fm (kn m) 1=0):=by decide
theorem fm2:∀m,m<49->(fm (kn m) 2=31\/fm (kn m) 2=0):=by decide
theorem fm3:∀m,m<49->(fm (kn m) 3=31\/fm (kn m) 3=0):=by decide
theorem fm1b:∀m,m<11->5<=m->fm (kn m) 1=0:=by decide
theorem zgS(m:Nat)(hm:m<49)(x:Int)(x0:0<=x)(x1:x<=4294967295):0<=rrg x 128 (fm (kn m) 1)/\rrg x 128 (fm (kn m) 1)<32:=by
 rcases fm1 m hm with h|h
 ·rw[h,ze9 x x0 (by omega)];omega
 ·rw[h,yR x x0 (by omega)];omega
theorem zdf(m:Nat)(hm:m<49)(x:Int)(x0:0<=x)(x1:x<=4294967295):0<=rrg x 32768 (fm (kn m) 2)/\rrg x 32768 (fm (kn m) 2)<32:=by
 rcases fm2 m hm with h|h
 ·rw[h,zan x x0 (by omega)];omega
 ·rw[h,zaI x x0 (by omega)];omega
theorem zdg(m:Nat)(hm:m<49)(x:Int)(x0:0<=x)(x1:x<=4294967295):0<=rrg x 1048576 (fm (kn m) 3)/\rrg x 1048576 (fm (kn m) 3)<32:=by
 rcases fm3 m hm with h|h
 ·rw[h,zd1 x x0 (by omega)];omega
 ·rw[h,kV x x0 (by omega)];omega
theorem zgT(m:Nat)(h0:5<=m)(h1:m<=10)(x:Int)(x0:0<=x)(x1:x<=4294967295):rrg x 128 (fm (kn m) 1)=0:=by
 rw[fm1b m (by omega) h0,yR x x0 (by omega)]
theorem zlz(m:Nat)(hm0:1<=m)(hm:m<=48)(x:Int)(x0:0<=x)(x1:x<=4294967295):-2147483648<=rim (fm (kn m)) x/\rim (fm (kn m)) x<=2147483647:=by
 obtain⟨h9,_,h1⟩:=zgc m (by omega)
 have h1':1<=kn m:=by first|exact h1 hm0|exact h1
 generalize kn m=F at h9 h1'
 have x2:x<4294967296:=by omega
 rcases(by omega:F=1\/F=2\/F=3\/F=4\/F=5\/F=6\/F=7\/F=8)with rfl|rfl|rfl|rfl|rfl|rfl|rfl|rfl
 ·rw[znD x x0 x2];unfold sx;split<;>omega
 ·rw[znE x x0 x2];unfold sx;split<;>omega
 ·rw[znF x x0 x2];unfold sx;split<;>omega
 ·rw[znG x x0 x2];omega
 ·rw[znH x x0 x2];unfold sx;split<;>omega
 ·rw[znI x x0 x2];unfold sx;split<;>omega
 ·rw[znJ x x0 x2];omega
 ·rw[znK x x0 x2];omega
def dcdN(X:Int):Nat->Option Nat
 |0=>none
 |k+1=>match dcdN X k with
  |some m=>some m
  |none=>if hit (k+1) X=true then some (k+1)else none
theorem yT(X:Int):∀k,(∀m,1<=m->m<=k->hit m X=false)->dcdN X k=none
 |0,_=>rfl
 |k+1,h=>by
  unfold dcdN
  rw[yT X k (fun m h1 h2=>h m h1 (by omega))]
  simp only[]
  rw[h (k+1) (by omega) (Nat.le_refl _)]
  rfl
theorem zbY(X:Int)(n:Nat)(h1:1<=n)(hn:hit n X=true)(hf:∀m,1<=m->m<n->hit m X=false):∀k,n<=k->dcdN X k=some n
 |0,h=>absurd h (by omega)
 |k+1,h=>by
  unfold dcdN
  by_cases e:n=k+1
  ·subst e
   rw[yT X k (fun m a b=>hf m a (by omega))]
   simp only[hn,if_true]
  ·rw[zbY X n h1 hn hf k (by omega)]
def dcdW(X:Int):Option In:=match dcdN X 48 with
 |some m=>some ⟨m,(rrg X 128 (fm (kn m) 1)).toNat,(rrg X 32768 (fm (kn m) 2)).toNat,(rrg X 1048576 (fm (kn m) 3)).toNat,rim (fm (kn m)) X⟩
 |none=>none
end Go.Proofs.YtpiohehijkpghabGreatDoor
namespace Go.Proofs.YtpiohehijkpghabGreatDoor
open Go.ChangeShapes Go.WideShapes Go.ChangeAt Go.RowKit
open Hy
theorem zgU(R:Nat->Int)(pc st ca:Int):(hcs R pc st ca).size=35:=rfl
theorem zjj(R:Nat->Int)(pc st ca:Int)(j:Nat)(hj:j<32):(hcs R pc st ca)[j]?=some (.int .u32 (R j)):=
 match j,hj with
 |0,_=>rfl
 |1,_=>rfl
 |2,_=>rfl
 |3,_=>rfl
 |4,_=>rfl
 |5,_=>rfl
 |6,_=>rfl
 |7,_=>rfl
 |8,_=>rfl
 |9,_=>rfl
 |10,_=>rfl
 |11,_=>rfl
 |12,_=>rfl
 |13,_=>rfl
 |14,_=>rfl
 |15,_=>rfl
 |16,_=>rfl
 |17,_=>rfl
 |18,_=>rfl
 |19,_=>rfl
 |20,_=>rfl
 |21,_=>rfl
 |22,_=>rfl
 |23,_=>rfl
 |24,_=>rfl
 |25,_=>rfl
 |26,_=>rfl
 |27,_=>rfl
 |28,_=>rfl
 |29,_=>rfl
 |30,_=>rfl
 |31,_=>rfl
 |n+32,h=>absurd h (by omega)
section
variable {H:Type} {enc:TypeId×Value->H} {w:World} {base:Nat} {sp:Nat->Bool} {held:Bool} {fuel:Nat} {cs:List Value} {d:DataW H} {p:List MemPlace}
theorem xN{t:TypeId}{k:IntKind}{o:Nat}(ht:prog.underlying t=some (.int k))(h:DataW.trod enc prog w base sp held fuel t ((cs.drop o).take 1)=some (d,p)):∃z,cs[o]?=some (.int k z)/\(Lit.int k z).wf=true:=by
 obtain⟨z,hc,hx,hw⟩:=DataW.trod_int ht h
 have:=congrArg (·[0]?) hc
 refine⟨z,?_,hw⟩
 simpa[List.getElem?_take,List.getElem?_drop]using this
theorem xO{t:TypeId}{fs:Array Field}(ht:prog.underlying t=some (.struct fs))(h:DataW.trod enc prog w base sp held fuel t cs=some (d,p))(i:Nat)(f:Field)(hi:fs[i]?=some f):
  ∃m d' q,DataW.trod enc prog w base sp held m f.type ((cs.drop f.offset).take (prog.cellsOf f.type))=some (d',q):=by
 obtain⟨xs,m,_,hx,_,hn,hall⟩:=DataW.trod_struct ht h
 have hlt:i<fs.size:=(Array.getElem?_eq_some_iff.1 hi).1
 obtain⟨x,hxx⟩:∃x,xs[i]?=some x:=⟨xs[i]'(by rw[hn];simpa using hlt),List.getElem?_eq_getElem _⟩
 exact⟨m,x.1,x.2,hall i f hi|>.trans (by rw[hxx])⟩
theorem zlA{t e:TypeId}{n:Nat}(ht:prog.underlying t=some (.array n e))(h:DataW.trod enc prog w base sp held fuel t cs=some (d,p))(i:Nat)(hi:i<n):
  ∃m d' q,DataW.trod enc prog w base sp held m e ((cs.drop (i*prog.cellsOf e)).take (prog.cellsOf e))=some (d',q):=by
 obtain⟨xs,m,_,hx,_,hn,hall⟩:=DataW.trod_array ht h
 obtain⟨x,hxx⟩:∃x,xs[i]?=some x:=⟨xs[i]'(by omega),List.getElem?_eq_getElem _⟩
 exact⟨m,x.1,x.2,hall i hi|>.trans (by rw[hxx])⟩
theorem k22:prog.cellsOf 24=1:=by kernel_rfl
theorem k3:prog.cellsOf 3=1:=by kernel_rfl
theorem k32:prog.cellsOf 25=32:=by kernel_rfl
theorem zfl{v:Array Value}(hsz:v.size=35)(h:DataW.trod enc prog w base sp held fuel 27 v.toList=some (d,p)):
  ∃(R:Nat->Int) (pc st ca:Int),v=hcs R pc st ca/\(∀i,i<32->0<=R i/\R i<=4294967295)/\0<=pc/\pc<=4294967295:=by
 obtain⟨m0,d0,q0,e0⟩:=xO underlying27 h 0 _ rfl
 obtain⟨m1,d1,q1,e1⟩:=xO underlying27 h 1 _ rfl
 obtain⟨m2,d2,q2,e2⟩:=xO underlying27 h 2 _ rfl
 obtain⟨m3,d3,q3,e3⟩:=xO underlying27 h 3 _ rfl
 have e0':DataW.trod enc prog w base sp held m0 25 ((v.toList.drop 0).take 32)=some (d0,q0):=by rw[<-k32];exact e0
 have e1':DataW.trod enc prog w base sp held m1 24 ((v.toList.drop 32).take 1)=some (d1,q1):=by rw[<-k22];exact e1
 have e2':DataW.trod enc prog w base sp held m2 3 ((v.toList.drop 33).take 1)=some (d2,q2):=by rw[<-k3];exact e2
 have e3':DataW.trod enc prog w base sp held m3 3 ((v.toList.drop 34).take 1)=some (d3,q3):=by rw[<-k3];exact e3
 obtain⟨pc,c1,w1⟩:=xN underlying24 e1'
 obtain⟨st,c2,_⟩:=xN underlying3 e2'
 obtain⟨ca,c3,_⟩:=xN underlying3 e3'
 have hr:∀i,i<32->∃z,v[i]?=some (.int .u32 z)/\(Lit.int .u32 z).wf=true:=fun i hi=>by
  obtain⟨m,d',q,e⟩:=zlA underlying25 e0' i hi
  rw[k22,Nat.mul_one]at e
  obtain⟨z,hz,hw⟩:=xN underlying24 e
  refine⟨z,?_,hw⟩
  rw[<-hz]
  simp[hi]
 have key:∀i,∃z,i<32->v[i]?=some (.int .u32 z)/\(Lit.int .u32 z).wf=true:=fun i=>by
  by_cases hi:i<32
  ·obtain⟨z,hz⟩:=hr i hi
   exact⟨z,fun _=>hz⟩
  ·exact⟨0,fun h=>absurd h hi⟩
 obtain⟨R,hR⟩:∃R:Nat->Int,∀i,i<32->v[i]?=some (.int .u32 (R i))/\(Lit.int .u32 (R i)).wf=true:=⟨fun i=>(key i).choose,fun i=>(key i).choose_spec⟩
 refine⟨R,pc,st,ca,?_,fun i hi=>bounds_u32 (hR i hi).2,(bounds_u32 w1).1,(bounds_u32 w1).2⟩
 apply Array.ext_getElem?
 intro i
 by_cases hi:i<32
 ·rw[(hR i hi).1,zjj R pc st ca i hi]
 ·by_cases h2:i<35
  ·rcases(by omega:i=32\/i=33\/i=34)with rfl|rfl|rfl
   ·have:v[32]?=some (.int .u32 pc):=by simpa using c1
    rw[this];rfl
   ·have:v[33]?=some (.int .i64 st):=by simpa using c2
    rw[this];rfl
   ·have:v[34]?=some (.int .i64 ca):=by simpa using c3
    rw[this];rfl
  ·rw[Array.getElem?_eq_none (by omega),Array.getElem?_eq_none (by rw[zgU];omega)]
end
abbrev imm0:DataW Unit:=Rows.laid_humpyard_hart_immediate
theorem znT:prog.globalNamed "humpyard/hart.immediate" =some 0:=by kernel_rfl
theorem zpO:(prog.globals[0]?).map (·.type)=some 195:=by kernel_rfl
theorem zlB:∀i,i<49->dInt (dAt imm0 i)=itab.getD i 0:=by decide
theorem zbZ{W:World}(h:laidMet prog [("humpyard/decode.forms",zd4),("humpyard/hart.immediate",imm0)] W):Tab W/\Tab2 W:=by
 obtain⟨ps,⟨g,t,cs,fuel,p,q,hg,ht,hvar,hd,hrest,hps⟩,hnd,hcell⟩:=h
 constructor
 ·refine zc4 ⟨MemPlace.row ⟨g,0,none⟩ cs.size++p++[],⟨g,t,cs,fuel,p,[],hg,ht,hvar,hd,rfl,rfl⟩,?_,fun b off hb=>hcell b off ?_⟩
  ·rw[hps]at hnd
   rw[List.append_nil]
   exact(List.nodup_append.1 hnd).1
  ·rw[hps]
   rw[List.append_nil]at hb
   exact List.mem_append_left _ hb
 ·obtain⟨g2,t2,cs2,fuel2,p2,q2,hg2,ht2,hvar2,hd2,_,_⟩:=hrest
  obtain rfl:=Option.some.inj (znT.symm.trans hg2)
  obtain rfl:=Option.some.inj (zpO.symm.trans ht2)
  intro i hi
  rw[World.var?_cell znT hvar2 i]
  obtain⟨m,q,h1⟩:=zd3 underlying195 hd2 i hi
  rw[k3,Nat.mul_one]at h1
  obtain⟨z,hc,hx,_⟩:=DataW.trod_int underlying3 h1
  have hz:dInt (dAt imm0 i)=z:=by
   have:=congrArg Prod.fst hx
   simp only at this
   rw[this];rfl
  have:=congrArg (·[0]?) hc
  rw[<-zlB i hi,hz]
  simpa[List.getElem?_take,List.getElem?_drop]using this
end Go.Proofs.YtpiohehijkpghabGreatDoor
