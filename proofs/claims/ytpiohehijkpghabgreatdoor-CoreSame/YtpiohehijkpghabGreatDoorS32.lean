/- The document's Step: it does what is done by a word, as plain numbers. -/
import Derived.Test.YtpiohehijkpghabGreatDoorS25
import Derived.Test.YtpiohehijkpghabGreatDoorS11
import Derived.Test.YtpiohehijkpghabGreatDoorS31
import Derived.Test.YtpiohehijkpghabGreatDoorS04
import Derived.Test.YtpiohehijkpghabGreatDoorS02
import Derived.Test.YtpiohehijkpghabGreatDoorS03
import Derived.Test.YtpiohehijkpghabGreatDoorS17
import Derived.Test.YtpiohehijkpghabGreatDoorS08
import Derived.Test.YtpiohehijkpghabGreatDoorS07
import Derived.Test.YtpiohehijkpghabGreatDoorS06
set_option maxHeartbeats 2000000
set_option linter.unusedSimpArgs false
set_option linter.unusedVariables false
open Go.Proofs.Tryz
namespace Go.Proofs.YtpiohehijkpghabGreatDoor.Co
open Go.RowKit
open Hy
open Wi Od Re.Hy
open Gu.Hy (Tb tcs)
def dcdM(x:Int):Option In:=if 0<=x/\x<=4294967295 then dcdW x else none
def brM(t:Tb)(pc:Int):Bool×Int:=(Gu.zou t (Gu.kb pc),t.G (Gu.kb pc))
def vaM(t:Tb)(pc:Int):Int×Bool:=(Gu.isV t (Gu.kw pc) pc,Gu.zlR t (Gu.kw pc) pc)
def lbM(t:Tb)(pc:Int)(tk:Bool)(g:Int):Tb:=Gu.zdr t (Gu.kb pc) tk g
def lvM(t:Tb)(pc v:Int):Tb:=Gu.zds t (Gu.kw pc) pc v
def mach:Mc:=⟨dcdM,doW,brM,vaM,lbM,lvM⟩
theorem zhV(X:Int):∀k m,dcdN X k=some m->1<=m/\m<=k
 |0,m,h=>by cases h
 |k+1,m,h=>by
  unfold dcdN at h
  cases e:dcdN X k with
  |some j=>
   rw[e]at h
   simp only[Option.some.injEq]at h
   subst h
   have:=zhV X k _ e
   omega
  |none=>
   rw[e]at h
   simp only[]at h
   split at h
   ·simp only[Option.some.injEq]at h;omega
   ·cases h
theorem fm1s:∀m,m<49->((16<=m/\m<=18)\/47<=m)->fm (kn m) 1=0:=by decide
theorem vw{x:Int}{i:In}(h:dcdM x=some i):0<=x/\x<=4294967295/\∃m,dcdN x 48=some m/\1<=m/\m<=48/\i=⟨m,(rrg x 128 (fm (kn m) 1)).toNat,(rrg x 32768 (fm (kn m) 2)).toNat,(rrg x 1048576 (fm (kn m) 3)).toNat,rim (fm (kn m)) x⟩:=by
 unfold dcdM at h
 split at h
 ·rename_i hx
  unfold dcdW at h
  cases e:dcdN x 48 with
  |none=>rw[e]at h;cases h
  |some m=>
   rw[e]at h
   simp only[Option.some.injEq]at h
   have:=zhV x 48 m e
   exact⟨hx.1,hx.2,m,rfl,this.1,this.2,h.symm⟩
 ·cases h
theorem zbu{x:Int}{i:In}(h:dcdM x=some i):InOk i:=by
 obtain⟨x0,x1,m,hm,m0,m1,rfl⟩:=vw h
 have h1:=zgS m (by omega) x x0 x1
 have h2:=zdf m (by omega) x x0 x1
 have h3:=zdg m (by omega) x x0 x1
 have h4:=zlz m m0 m1 x x0 x1
 exact⟨by show Int.toNat _<32;omega,by show Int.toNat _<32;omega,by show Int.toNat _<32;omega,h4.1,h4.2,by show(1:Int)<=m;omega,by show(m:Int)<=48;omega⟩
theorem zdD{x:Int}{i:In}(h:dcdM x=some i)(ho:(5<=i.op/\i.op<=10)\/(16<=i.op/\i.op<=18)\/47<=i.op):i.rd=0:=by
 obtain⟨x0,x1,m,hm,m0,m1,rfl⟩:=vw h
 simp only[]at ho⊢
 rcases ho with ho|ho|ho
 ·rw[zgT m (by omega) (by omega) x x0 x1];rfl
 ·rw[fm1s m (by omega) (by omega),yR x x0 (by omega)];rfl
 ·rw[fm1s m (by omega) (by omega),yR x x0 (by omega)];rfl
theorem zew{op:Int}(h:16<=op/\op<=18):(stn op=1\/stn op=2\/stn op=4):=by
 rcases(by omega:op=16\/op=17\/op=18)with rfl|rfl|rfl<;>simp[stn]
theorem xn(i:In)(pc a b:Int)(n:Nat):(16<=i.op/\i.op<=18/\fits n (place i a) (stn i.op)=true/\doW i pc a b n=⟨pc,(pc+4)%4294967296,0,0,0,0,place i a,stn i.op,b%p256 (stn i.op).toNat,false,0⟩)\/(16<=i.op/\i.op<=18/\doW i pc a b n=qe pc 4)\/(i.op=46/\doW i pc a b n=onC pc 0 0)\/
  (i.op=47/\(doW i pc a b n=⟨pc,pc,1,0,0,0,0,0,0,false,0⟩\/doW i pc a b n=⟨pc,(pc+4)%4294967296,0,0,0,0,0,0,0,true,b⟩\/doW i pc a b n=qe pc 5))\/(i.op=48/\doW i pc a b n=qe pc 6)\/(¬(16<=i.op/\i.op<=18)/\i.op≠46/\i.op≠47/\i.op≠48/\doW i pc a b n=zbN pc (nxW i pc a b) i.rd (rkW i pc a b)):=by
 unfold doW
 by_cases h1:sts i=true
 ·rw[if_pos h1]
  have h1':16<=i.op/\i.op<=18:=by simpa[sts]using h1
  by_cases h2:fits n (place i a) (stn i.op)=true
  ·rw[if_pos h2];exact .inl ⟨h1'.1,h1'.2,h2,rfl⟩
  ·rw[if_neg h2];exact .inr (.inl ⟨h1'.1,h1'.2,rfl⟩)
 ·have h1':¬(16<=i.op/\i.op<=18):=by simpa[sts]using h1
  rw[if_neg h1]
  by_cases h2:i.op=46
  ·rw[if_pos h2];exact .inr (.inr (.inl ⟨h2,rfl⟩))
  rw[if_neg h2]
  by_cases h3:i.op=47
  ·rw[if_pos h3]
   refine .inr (.inr (.inr (.inl ⟨h3,?_⟩)))
   by_cases h4:a=0
   ·rw[if_pos h4];exact .inl rfl
   ·rw[if_neg h4]
    by_cases h5:a=1
    ·rw[if_pos h5];exact .inr (.inl rfl)
    ·rw[if_neg h5];exact .inr (.inr rfl)
  rw[if_neg h3]
  by_cases h4:i.op=48
  ·rw[if_pos h4];exact .inr (.inr (.inr (.inr (.inl ⟨h4,rfl⟩))))
  ·rw[if_neg h4];exact .inr (.inr (.inr (.inr (.inr ⟨h1',h2,h3,h4,rfl⟩))))
theorem vx{i:In}(h:i.op<4\/10<i.op):trn i=false:=by unfold trn;exact decide_eq_false (by omega)
theorem zdE{i:In}(h:i.op≠46):gvs i=i.rd:=if_neg h
theorem zR:MOk mach:=by
 refine⟨fun{x i} h=>?_,fun{x i} pc a b n h hl hs=>?_,fun{x i} pc a b n h hl hs=>?_,fun{x i} pc a b n h hl=>?_⟩
 ·have:=zbu h
  exact⟨this.lr,this.l1,this.l2,this.o0,this.o1⟩
 ·show(doW i pc a b n).next=pc/\(doW i pc a b n).rd=0/\i.op≠3/\trn i=false/\(doW i pc a b n).many=0
  have hs':(doW i pc a b n).st≠0:=hs
  rcases xn i pc a b n with⟨h1,h2,h3,e⟩|⟨h1,h2,e⟩|⟨h1,e⟩|⟨h1,e|e|e⟩|⟨h1,e⟩|⟨h1,h2,h3,h4,e⟩<;>rw[e]at hs'⊢
  ·exact absurd rfl hs'
  ·exact⟨rfl,rfl,by omega,vx (by omega),rfl⟩
  ·exact absurd rfl hs'
  ·exact⟨rfl,rfl,by omega,vx (by omega),rfl⟩
  ·exact absurd rfl hs'
  ·exact⟨rfl,rfl,by omega,vx (by omega),rfl⟩
  ·exact⟨rfl,rfl,by omega,vx (by omega),rfl⟩
  ·exact absurd rfl hs'
 ·show(doW i pc a b n).rd=gvs i
  have hs':(doW i pc a b n).st=0:=hs
  rcases xn i pc a b n with⟨h1,h2,h3,e⟩|⟨h1,h2,e⟩|⟨h1,e⟩|⟨h1,e|e|e⟩|⟨h1,e⟩|⟨h1,h2,h3,h4,e⟩<;>rw[e]at hs'⊢
  ·rw[zdE (by omega),zdD h (by omega)]
  ·exact absurd (show(2:Int)=0 from hs') (by decide)
  ·unfold gvs;rw[if_pos h1];rfl
  ·exact absurd (show(1:Int)=0 from hs') (by decide)
  ·rw[zdE (by omega),zdD h (by omega)]
  ·exact absurd (show(2:Int)=0 from hs') (by decide)
  ·exact absurd (show(2:Int)=0 from hs') (by decide)
  ·rw[zdE (by omega)];rfl
 ·show(doW i pc a b n).many=0\/(sts i=true/\((doW i pc a b n).many=1\/(doW i pc a b n).many=2\/(doW i pc a b n).many=4)/\0<=(doW i pc a b n).pl/\(doW i pc a b n).pl+(doW i pc a b n).many<=n)
  rcases xn i pc a b n with⟨h1,h2,h3,e⟩|⟨h1,h2,e⟩|⟨h1,e⟩|⟨h1,e|e|e⟩|⟨h1,e⟩|⟨h1,h2,h3,h4,e⟩<;>rw[e]
  ·refine .inr ⟨by unfold sts;exact decide_eq_true ⟨h1,h2⟩,zew ⟨h1,h2⟩,(jA h3).1,(jA h3).2.2⟩
  all_goals exact .inl rfl
def U32(x:Int):Prop:=0<=x/\x<=4294967295
structure CmR(c:Cm):Prop where
 pc:U32 c.pc
 next:U32 c.next
 st:0<=c.st/\c.st<=2
 ca:0<=c.ca/\c.ca<=6
 rd:c.rd<32
 val:U32 c.val
 pl:U32 c.pl
 many:c.many=0\/c.many=1\/c.many=2\/c.many=4
 data:U32 c.data
 told:U32 c.told
theorem u0:U32 0:=⟨by omega,by omega⟩
theorem s02:(0:Int)<=0/\(0:Int)<=2:=by omega
theorem s12:(0:Int)<=1/\(1:Int)<=2:=by omega
theorem s22:(0:Int)<=2/\(2:Int)<=2:=by omega
theorem s06:(0:Int)<=0/\(0:Int)<=6:=by omega
theorem z32:0<32:=by decide
theorem umod(x:Int):U32 (x%4294967296):=⟨by omega,by omega⟩
theorem zp1:CmR zcm:=⟨u0,u0,s02,s06,z32,u0,u0,.inl rfl,u0,u0⟩
theorem jC{pc k:Int}(h:U32 pc)(hk:0<=k/\k<=6):CmR (qe pc k):=⟨h,h,s22,hk,z32,u0,u0,.inl rfl,u0,u0⟩
theorem zex{pc v:Int}{rd:Nat}(h:U32 pc)(hr:rd<32)(hv:U32 v):CmR (onC pc rd v):=
 ⟨h,umod _,s02,s06,hr,by show U32 (if rd=0 then 0 else v);split;exact u0;exact hv,u0,.inl rfl,u0,u0⟩
theorem zjX{pc nx v:Int}{rd:Nat}(h:U32 pc)(hn:U32 nx)(hr:rd<32)(hv:U32 v):CmR (zbN pc nx rd v):=
 ⟨h,hn,s02,s06,hr,by show U32 (if rd=0 then 0 else v);split;exact u0;exact hv,u0,.inl rfl,u0,u0⟩
theorem zl9(i:In)(pc a b:Int):U32 (nxW i pc a b):=by
 unfold nxW U32
 split
 ·omega
 ·split
  ·omega
  ·split<;>omega
theorem zma(i:In)(pc a b:Int)(ha:U32 a)(hb:U32 b):U32 (rkW i pc a b):=by
 unfold rkW
 split
 ·exact umod _
 ·split
  ·exact umod _
  ·split
   ·exact umod _
   ·split
    ·exact yN _ _ _ ha.1 ha.2 (umod _).1 (umod _).2
    ·exact yN _ _ _ ha.1 ha.2 hb.1 hb.2
theorem zkP{i:In}(hi:InOk i){pc a b:Int}{n:Nat}(hp:U32 pc)(ha:U32 a)(hb:U32 b):CmR (doW i pc a b n):=by
 rcases xn i pc a b n with⟨h1,h2,h3,e⟩|⟨h1,h2,e⟩|⟨h1,e⟩|⟨h1,e|e|e⟩|⟨h1,e⟩|⟨h1,h2,h3,h4,e⟩<;>rw[e]
 ·refine⟨hp,umod _,s02,s06,z32,u0,umod _,.inr (zew ⟨h1,h2⟩),?_,u0⟩
  show U32 (b%p256 (stn i.op).toNat)
  unfold U32
  have hb':=hb
  unfold U32 at hb'
  rcases zew ⟨h1,h2⟩with e|e|e<;>rw[e]<;>simp[p256]<;>omega
 ·exact jC hp ⟨by decide,by decide⟩
 ·exact zex hp (by decide) u0
 ·exact⟨hp,hp,s12,s06,z32,u0,u0,.inl rfl,u0,u0⟩
 ·exact⟨hp,umod _,s02,s06,z32,u0,u0,.inl rfl,u0,hb⟩
 ·exact jC hp ⟨by decide,by decide⟩
 ·exact jC hp ⟨by decide,by decide⟩
 ·exact zjX hp (zl9 _ _ _ _) hi.lr (zma _ _ _ _ ha hb)
theorem zoO{t:Tb}(ht:Gu.TbOk t)(pc:Int)(hp:U32 pc):U32 (brM t pc).2:=ht.G _ (by unfold Gu.kb U32 at*;omega)
theorem zoP{t:Tb}(ht:Gu.TbOk t)(pc:Int):U32 (vaM t pc).1:=by
 show U32 (Gu.isV t (Gu.kw pc) pc)
 unfold Gu.isV
 split
 ·exact umod _
 ·exact u0
theorem zey{f:Nat->Int}{n k:Nat}{v:Int}(h:∀i,i<n->0<=f i/\f i<=4294967295)(hv:U32 v):∀i,i<n->0<=Gu.Hy.up f k v i/\Gu.Hy.up f k v i<=4294967295:=fun i hi=>by
 unfold Gu.Hy.up
 split
 ·exact hv
 ·exact h i hi
theorem zp2{t:Tb}(ht:Gu.TbOk t)(pc:Int)(tk:Bool){g:Int}(hg:U32 g):Gu.TbOk (lbM t pc tk g):=by
 unfold lbM Gu.zdr
 cases tk with
 |true=>exact⟨zey ht.G hg,ht.P,ht.A,ht.S⟩
 |false=>exact⟨ht.G,ht.P,ht.A,ht.S⟩
theorem yn(R:Nat->Int)(pc st ca:Int):Ones (hcs R pc st ca):=by unfold Ones;simp[Value.oneCell']
theorem zhW(R:Nat->Int)(pc st ca:Int){j:Nat}(hj:j<32):(hcs R pc st ca)[j]?=some (.int .u32 (R j)):=by
 rw[yk,zp _ (by omega)]
 unfold hat
 rw[if_pos hj]
theorem zoQ(R:Nat->Int)(pc st ca v:Int){rd:Nat}(lr:rd<32):(hcs R pc st ca).setIfInBounds rd (.int .u32 v)=hcs (up R rd v) pc st ca:=by
 rw[yk,yk,jS]
 refine qt fun i hi=>?_
 unfold hat up
 by_cases h:i=rd
 ·rw[if_pos h,if_pos (by omega),if_pos h]
 ·rw[if_neg h]
  by_cases h2:i<32
  ·rw[if_pos h2,if_pos h2,if_neg h]
  ·rw[if_neg h2,if_neg h2]
theorem zkQ(R:Nat->Int)(pc st ca x:Int):(hcs R pc st ca).setIfInBounds 32 (.int .u32 x)=hcs R x st ca:=rfl
def QS(w:World)(R:Nat->Int)(pc:Int)(p:Option Addr)(n c:Nat)(f:Nat->Int)(C:Cm):Prop:=
 Calls prog 14 #[.agg (hcs R pc 0 0),.slice p n c] w fun e w'=>(∃D p' cap,e=.returned (.agg D)/\Did D (cC C) (hcs (updC R C) C.next C.st C.ca) p' n cap/\n<=cap/\Mem w' p' n (stoC f C)/\(p'=p\/∃h,p'=some ⟨h,0,none⟩))/\Below w.heap.size w w'
theorem zp3(C:Cm)(H:Array Value)(p:Option Addr)(n c:Nat)(hs:H.size=35)(h1:Ones H):Did (cC C++H++#[.slice p n c]) (cC C) H p n c:=⟨rfl,rfl,hs,qZ _ _ _ _ _ _ _ _ _ _ _,h1⟩
theorem zaA{w:World}{R:Nat->Int}{pc:Int}{p:Option Addr}{n c:Nat}{f:Nat->Int}{C:Cm}(hm:C.many=0)(o:Bys w p n c f)
  (h:∀D,Hid (Did D (cC C) (hcs (updC R C) C.next C.st C.ca) p n c)->Calls prog 14 #[.agg (hcs R pc 0 0),.slice p n c] w fun e w'=>e=.returned (.agg D)/\Below w.heap.size w w'):QS w R pc p n c f C:=by
 have hD:=zp3 C (hcs (updC R C) C.next C.st C.ca) p n c rfl (yn _ _ _ _)
 refine(h _ hD).mono fun e w' ⟨he,hb⟩=>⟨⟨_,p,c,he,hD,o.hnc,?_,.inl rfl⟩,hb⟩
 unfold stoC
 rw[hm,show(0:Int).toNat=0 from rfl,zep]
 exact o.hm.below hb
section
variable {w:World} {R:Nat->Int} {pc:Int} {p:Option Addr} {n c:Nat} {f:Nat->Int} {X M I N NX TH PN:Int} {rd s1 s2:Nat}
theorem xS{A B:Int}(q:QB (hcs R pc 0 0) pc p n c w X M I N NX TH A B (R rd) PN rd s1 s2)(o:Bys w p n c f)(v nx O:Int)(K:KG p n c w M N NX TH A B PN v nx O):QS w R pc p n c f (zbN pc nx rd v):=by
 refine zaA rfl o fun D hD=>zpL _ _ _ _ _ _ _ _ _ _ _ _ _ _ _ _ _ _ _ v nx O D q K ?_
 by_cases h0:rd=0
 ·subst h0
  exact .inl ⟨rfl,hD⟩
 ·refine .inr ⟨by simp;omega,?_⟩
  rw[zoQ _ _ _ _ _ q.lr,zkQ]
  rw[zgy pc nx v h0]at hD
  have e:updC R ⟨pc,nx,0,0,rd,v,0,0,0,false,0⟩=up R rd v:=if_neg h0
  rw[e]at hD
  exact hD
theorem zhX{A B:Int}(q:QB (hcs R pc 0 0) pc p n c w X M I N NX TH A B (R rd) PN rd s1 s2)(o:Bys w p n c f)(nx v:Int)(h0:rd=0)(K:(5<=M/\M<=10/\nx=PN/\∀W,Calls prog 29 #[.int .i64 M,.int .u32 A,.int .u32 B] W fun e w'=>e=.returned (.bool true)/\w'=W)\/
   (5<=M/\M<=10/\nx=NX/\∀W,Calls prog 29 #[.int .i64 M,.int .u32 A,.int .u32 B] W fun e w'=>e=.returned (.bool false)/\w'=W)\/(M=46/\nx=NX)):QS w R pc p n c f (zbN pc nx 0 v):=
 zaA rfl o fun D hD=>znN _ _ _ _ _ _ _ _ _ _ _ _ _ _ _ _ _ _ _ nx D q K hD
theorem yo(k:Int)(o:Bys w p n c f)(h:∀D,Hid (Did D (ccs pc pc 2 k 0 0 0 0 0 false 0) (((hcs R pc 0 0).setIfInBounds 33 (.int .i64 2)).setIfInBounds 34 (.int .i64 k)) p n c)->(∀W,Calls prog 25 #[.agg (hcs R pc 0 0),.slice p n c,.int .i64 k] W fun e w'=>e=.returned (.agg D)/\Below W.heap.size W w')->
  Calls prog 14 #[.agg (hcs R pc 0 0),.slice p n c] w fun e w'=>e=.returned (.agg D)/\Below w.heap.size w w'):QS w R pc p n c f (qe pc k):=
 zaA rfl o fun D hD=>h D hD fun W=>zgJ (hcs R pc 0 0) pc k p n c W rfl (yn _ _ _ _) rfl ⟨_,rfl⟩ ⟨_,rfl⟩ D hD
theorem zcw(o:Bys w p n c f)(op:Int)(a:Nat)(a1:(a:Int)<=4294967295)(ho:0<ldn op/\(a:Int)%ldn op=0/\(a:Int)+ldn op<=n):
  ∀W,Below w.heap.size w W->Calls prog 24 #[.slice p n c,.int .i64 op,.int .u32 a] W fun e w'=>e=.returned (.tuple #[.int .u32 (ldv op (fun i=>f (a+i))),.bool true])/\w'=W:=by
 have hn:=o.hn
 obtain⟨m,hm⟩:=Int.eq_ofNat_of_zero_le (show 0<=ldn op by omega)
 have ho':=ho
 rw[hm]at ho'
 obtain⟨g,q,hp,hc⟩:=o.hm (by omega)
 have hf:∀i,i<m->0<=f (a+i)/\f (a+i)<=255:=fun i hi=>o.hf _ (by omega)
 intro W hW
 subst hp
 exact zgm g q n c op a m _ hm (by omega) (by omega) (by omega) (by omega) (by omega) o.hnc W hf (Lies.part (hc.below hW) a m (by omega))
theorem zmb(f:Nat->Int)(a k:Nat)(B:Int)(hk:k=1\/k=2\/k=4):sto f a (B%p256 k) k=sto f a B k:=by
 funext i
 unfold sto
 by_cases h:a<=i/\i<a+k
 ·rw[if_pos h,if_pos h]
  have e0:p256 0=1:=rfl
  have e1:p256 1=256:=rfl
  have e2:p256 2=65536:=rfl
  have e3:p256 3=16777216:=rfl
  have e4:p256 4=4294967296:=rfl
  rcases hk with rfl|rfl|rfl
  ·rw[show i-a=0 by omega,e0,e1];omega
  ·rcases(by omega:i-a=0\/i-a=1)with e|e<;>rw[e]<;>simp only[e0,e1,e2]<;>omega
  ·rcases(by omega:i-a=0\/i-a=1\/i-a=2\/i-a=3)with e|e|e|e<;>rw[e]<;>simp only[e0,e1,e2,e3,e4]<;>omega
 ·rw[if_neg h,if_neg h]
theorem zjY{M a b:Int}(h:M<5\/10<M):holds M a b=false:=holds_none _ _ _ (by omega) (by omega) (by omega) (by omega) (by omega) (by omega)
theorem zp4(hR:∀i,i<32->0<=R i/\R i<=4294967295)(p0:0<=pc)(p1:pc<=4294967295)(hi:InOk ⟨M,rd,s1,s2,I⟩)(hb0:5<=M->M<=10->rd=0)(o:Bys w p n c f)
  (CL:∀W,Below w.heap.size w W->Calls prog 24 #[.slice p n c,.int .i64 13,.int .u32 pc] W fun e w'=>e=.returned (.tuple #[.int .u32 X,.bool true])/\w'=W)
  (CD:∀W,Calls prog 26 #[.int .u32 X] W fun e w'=>e=.returned (.tuple #[iv M rd s1 s2 I,.bool true])/\Below W.heap.size W w'):
  QS w R pc p n c f (allW n f ⟨M,rd,s1,s2,I⟩ pc (R (ra ⟨M,rd,s1,s2,I⟩)) (R (rb ⟨M,rd,s1,s2,I⟩))):=by
 obtain⟨lr,l1,l2,i0,i1,o0,o1⟩:=hi
 replace lr:rd<32:=lr
 replace l1:s1<32:=l1
 replace l2:s2<32:=l2
 replace i0:-2147483648<=I:=i0
 replace i1:I<=2147483647:=i1
 replace o0:1<=M:=o0
 replace o1:M<=48:=o1
 obtain⟨a0,a1⟩:=hR s1 l1
 obtain⟨b0,b1⟩:=hR s2 l2
 have q:QB (hcs R pc 0 0) pc p n c w X M I (I%4294967296) ((pc+4)%4294967296) ((R s1+I%4294967296)%4294967296) (R s1) (R s2) (R rd) ((pc+I%4294967296)%4294967296) rd s1 s2:=
  ⟨rfl,yn _ _ _ _,rfl,rfl,rfl,zhW _ _ _ _ l1,zhW _ _ _ _ l2,zhW _ _ _ _ lr,l1,l2,lr,i0,i1,by omega,by omega,CL,CD,fun W=>zS I W,fun W=>zaJ pc 4 p0 p1 (by omega) (by omega) W,fun W=>zaJ (R s1) (I%4294967296) a0 a1 (by omega) (by omega) W,fun W=>zaJ pc (I%4294967296) p0 p1 (by omega) (by omega) W⟩
 by_cases e47:M=47
 ·subst e47
  rw[show ra ⟨47,rd,s1,s2,I⟩=17 from rfl,show rb ⟨47,rd,s1,s2,I⟩=10 from rfl,kg n f ⟨47,rd,s1,s2,I⟩ pc (R 17) (R 10) (.inr (by show(15:Int)<47;omega)),zi7]
  by_cases z0:R 17=0
  ·rw[if_pos z0]
   exact zaA rfl o fun D hD=>znO _ _ _ _ _ _ _ _ _ _ _ _ _ _ _ _ _ _ (R 17) (R 10) D q rfl rfl (.inl ⟨z0,hD⟩)
  ·rw[if_neg z0]
   by_cases z1:R 17=1
   ·rw[if_pos z1]
    exact zaA rfl o fun D hD=>znO _ _ _ _ _ _ _ _ _ _ _ _ _ _ _ _ _ _ (R 17) (R 10) D q rfl rfl (.inr ⟨z1,hD⟩)
   ·rw[if_neg z1]
    exact yo 5 o fun D hD hX=>zd6 _ _ _ _ _ _ _ _ _ _ _ _ _ _ _ _ _ _ _ 5 D q (R 17) (R 10) rfl rfl (.inr (.inr (.inl ⟨rfl,rfl,beq_eq_false_iff_ne.2 z0,beq_eq_false_iff_ne.2 z1⟩))) hX hD
 ·rw[show ra ⟨M,rd,s1,s2,I⟩=s1 from if_neg e47,show rb ⟨M,rd,s1,s2,I⟩=s2 from if_neg e47]
  have eTH:(R s1+I%4294967296)%4294967296=(R s1+I)%4294967296:=by omega
  by_cases hl:11<=M/\M<=15
  ·have hld:0<ldn M:=by rcases(by omega:M=11\/M=12\/M=13\/M=14\/M=15)with rfl|rfl|rfl|rfl|rfl<;>decide
   rw[zgB n f ⟨M,rd,s1,s2,I⟩ pc (R s1) (R s2) hld]
   obtain⟨a,ea⟩:=Int.eq_ofNat_of_zero_le (show 0<=(R s1+I)%4294967296 by omega)
   by_cases ho:0<ldn M/\(a:Int)%ldn M=0/\(a:Int)+ldn M<=n
   ·rw[zgA n f M rd s1 s2 I pc (R s1) a ea ho]
    have CM:=zcw o M a (by omega) ho
    rw[<-ea,<-eTH]at CM
    exact xS q o _ _ 0 (.inr (.inr (.inr (.inr (.inl ⟨hl.1,hl.2,rfl,CM⟩)))))
   ·rw[zi6 n f M rd s1 s2 I pc (R s1) a ea hld ho]
    have CM:∀W,Below w.heap.size w W->Calls prog 24 #[.slice p n c,.int .i64 M,.int .u32 a] W fun e w'=>e=.returned (.tuple #[.int .u32 0,.bool false])/\w'=W:=fun W _=>zdZ p n c M a (by have:=o.hn;omega) (by omega) (by omega) ho W
    rw[<-ea,<-eTH]at CM
    exact yo 3 o fun D hD hX=>zd6 _ _ _ _ _ _ _ _ _ _ _ _ _ _ _ _ _ _ _ 3 D q (R 17) (R 10) rfl rfl (.inl ⟨hl.1,hl.2,rfl,CM⟩) hX hD
  ·by_cases hs:16<=M/\M<=18
   ·rw[kg n f ⟨M,rd,s1,s2,I⟩ pc (R s1) (R s2) (.inr (by show 15<M;omega))]
    obtain⟨a,ea⟩:=Int.eq_ofNat_of_zero_le (show 0<=(R s1+I)%4294967296 by omega)
    have hst:0<stn M:=by rcases(by omega:M=16\/M=17\/M=18)with rfl|rfl|rfl<;>decide
    by_cases ho:0<stn M/\(a:Int)%stn M=0/\(a:Int)+stn M<=n
    ·rw[zc2 n M rd s1 s2 I pc (R s1) (R s2) a hs ea ho]
     obtain⟨k,hk⟩:=Int.eq_ofNat_of_zero_le (show 0<=stn M by omega)
     have hk3:k=1\/k=2\/k=4:=by have:=jL M;omega
     rw[hk]at ho
     obtain⟨g,g',hp,hc⟩:=o.hm (by omega)
     have CM:∀W,Below w.heap.size w W->Calls prog 30 #[.slice p n c,.int .i64 M,.int .u32 a,.int .u32 (R s2)] W fun e w'=>(∃h cap,e=.returned (.tuple #[.slice (some ⟨h,0,none⟩) n cap,.bool true])/\n<=cap/\Fr w' W.heap.size h n (sto f a (R s2) k))/\Below W.heap.size W w':=fun W hW=>by
      subst hp
      exact zeZ g g' n c M a k (R s2) f hk (by have:=o.hn;omega) (by omega) (by omega) (by omega) (by omega) o.hnc b0 b1 W (hc.below hW)
     rw[<-ea,<-eTH]at CM
     have fin:=znQ _ _ _ _ _ _ _ _ _ _ _ _ _ _ _ _ _ _ _ (stn M) (R s2%p256 k) _ b0 b1 q ?_ CM
     ·refine fin.mono fun e w' ⟨⟨D,h,cap,he,hD,hcap,hF⟩,hb⟩=>⟨⟨D,some ⟨h,0,none⟩,cap,he,?_,hcap,?_,.inr ⟨h,rfl⟩⟩,hb⟩
      ·rw[eTH,zkQ]at hD
       rw[show(stn M).toNat=k by omega]
       exact hD
      ·unfold stoC
       show Mem w' _ n (sto f ((R s1+I)%4294967296).toNat (R s2%p256 (stn M).toNat) (stn M).toNat)
       rw[show(stn M).toNat=k by omega,show((R s1+I)%4294967296).toNat=a by omega,zmb f a k (R s2) hk3]
       exact Mem.ofFr hF
     ·have C8:=fun W=>qC 8 (by omega) W
      have C16:=fun W=>qC 16 (by omega) W
      rcases(by omega:M=16\/M=17\/M=18)with rfl|rfl|rfl
      ·obtain rfl:k=1:=by have:stn 16=1:=rfl;omega
       exact .inl ⟨rfl,rfl,rfl,fun W=>jo 16 W,C8⟩
      ·obtain rfl:k=2:=by have:stn 17=2:=rfl;omega
       exact .inr (.inl ⟨rfl,rfl,rfl,fun W=>jo 17 W,C16⟩)
      ·obtain rfl:k=4:=by have:stn 18=4:=rfl;omega
       exact .inr (.inr ⟨rfl,rfl,(show R s2%4294967296=R s2 by omega),fun W=>jo 18 W⟩)
    ·rw[zfa n M rd s1 s2 I pc (R s1) (R s2) a hs ea hst ho]
     have CM:∀W,Below w.heap.size w W->Calls prog 30 #[.slice p n c,.int .i64 M,.int .u32 a,.int .u32 (R s2)] W fun e w'=>e=.returned (.tuple #[.slice none 0 0,.bool false])/\w'=W:=fun W _=>zgp p n c M a (R s2) (by have:=o.hn;omega) (by omega) (by omega) ho W
     rw[<-ea,<-eTH]at CM
     exact yo 4 o fun D hD hX=>zd6 _ _ _ _ _ _ _ _ _ _ _ _ _ _ _ _ _ _ _ 4 D q (R 17) (R 10) rfl rfl (.inr (.inl ⟨hs.1,hs.2,rfl,CM⟩)) hX hD
   ·by_cases e48:M=48
    ·subst e48
     rw[kg n f ⟨48,rd,s1,s2,I⟩ pc (R s1) (R s2) (.inr (by show(15:Int)<48;omega)),zgD]
     exact yo 6 o fun D hD hX=>zd6 _ _ _ _ _ _ _ _ _ _ _ _ _ _ _ _ _ _ _ 6 D q (R 17) (R 10) rfl rfl (.inr (.inr (.inr ⟨rfl,rfl⟩))) hX hD
    ·by_cases e46:M=46
     ·subst e46
      rw[kg n f ⟨46,rd,s1,s2,I⟩ pc (R s1) (R s2) (.inr (by show(15:Int)<46;omega)),zgC]
      exact zaA rfl o fun D hD=>znN _ _ _ _ _ _ _ _ _ _ _ _ _ _ _ _ _ _ _ _ D q (.inr (.inr ⟨rfl,rfl⟩)) hD
     ·rw[zgx n f ⟨M,rd,s1,s2,I⟩ pc (R s1) (R s2) o0 (by show M<46;omega) (by show M<11\/18<M;omega)]
      by_cases hbr:5<=M/\M<=10
      ·have h0:=hb0 hbr.1 hbr.2
       have hH:=fun W=>zeY M (R s1) (R s2) a0 a1 b0 b1 W
       cases hh:holds M (R s1) (R s2)with
       |true=>
        rw[hh]at hH
        rw[znM ⟨M,rd,s1,s2,I⟩ pc (R s1) (R s2) (by show M≠3;omega) (by show M≠4;omega) hh]
        subst h0
        exact zhX q o _ _ rfl (.inl ⟨hbr.1,hbr.2,rfl,hH⟩)
       |false=>
        rw[hh]at hH
        rw[zky ⟨M,rd,s1,s2,I⟩ pc (R s1) (R s2) (by show M≠3;omega) (by show M≠4;omega) hh]
        subst h0
        exact zhX q o _ _ rfl (.inr (.inl ⟨hbr.1,hbr.2,rfl,hH⟩))
      ·by_cases e3:M=3
       ·subst e3
        rw[zll ⟨3,rd,s1,s2,I⟩ pc (R s1) (R s2) rfl,zd2 ⟨3,rd,s1,s2,I⟩ pc (R s1) (R s2) (.inl rfl)]
        exact xS q o _ _ 0 (.inr (.inr (.inl ⟨rfl,rfl,rfl⟩)))
       ·by_cases e4:M=4
        ·subst e4
         rw[zi5 ⟨4,rd,s1,s2,I⟩ pc (R s1) (R s2) rfl,zd2 ⟨4,rd,s1,s2,I⟩ pc (R s1) (R s2) (.inr rfl)]
         exact xS q o _ _ 0 (.inr (.inr (.inr (.inl ⟨rfl,rfl,rfl⟩))))
        ·rw[zky ⟨M,rd,s1,s2,I⟩ pc (R s1) (R s2) e3 e4 (zjY (show M<5\/10<M by omega))]
         by_cases e1:M=1
         ·subst e1
          rw[zlm ⟨1,rd,s1,s2,I⟩ pc (R s1) (R s2) rfl]
          exact xS q o _ _ 0 (.inl ⟨rfl,rfl,rfl⟩)
         ·by_cases e2:M=2
          ·subst e2
           rw[zgz ⟨2,rd,s1,s2,I⟩ pc (R s1) (R s2) rfl]
           exact xS q o _ _ 0 (.inr (.inl ⟨rfl,rfl,rfl⟩))
          ·by_cases him:19<=M/\M<=27
           ·rw[zln ⟨M,rd,s1,s2,I⟩ pc (R s1) (R s2) him]
            exact xS q o _ _ (opn M) (.inr (.inr (.inr (.inr (.inr (.inl ⟨him.1,him.2,rfl,fun W=>vP M W,fun W=>zd0 (opn M) (R s1) (I%4294967296) a0 a1 (by omega) (by omega) W⟩))))))
           ·rw[zlo ⟨M,rd,s1,s2,I⟩ pc (R s1) (R s2) (by show 5<=M;omega) him]
            exact xS q o _ _ 0 (.inr (.inr (.inr (.inr (.inr (.inr ⟨by omega,by omega,rfl,fun W=>zd0 M (R s1) (R s2) a0 a1 b0 b1 W⟩))))))
theorem zez(X:Int):∀k m,dcdN X k=some m->hit m X=true
 |0,m,h=>by cases h
 |k+1,m,h=>by
  unfold dcdN at h
  cases e:dcdN X k with
  |some j=>
   rw[e]at h
   simp only[Option.some.injEq]at h
   subst h
   exact zez X k _ e
  |none=>
   rw[e]at h
   simp only[]at h
   split at h
   ·simp only[Option.some.injEq]at h
    subst h
    assumption
   ·cases h
theorem zhY(X:Int):∀k,dcdN X k=none->∀m,1<=m->m<=k->hit m X=false
 |0,_,m,h1,h2=>absurd h1 (by omega)
 |k+1,h,m,h1,h2=>by
  unfold dcdN at h
  cases e:dcdN X k with
  |some j=>rw[e]at h;cases h
  |none=>
   rw[e]at h
   simp only[]at h
   split at h
   ·cases h
   ·rename_i hh
    by_cases hm:m=k+1
    ·subst hm
     simpa using hh
    ·exact zhY X k e m h1 (by omega)
theorem zoR(hR:∀i,i<32->0<=R i/\R i<=4294967295)(p0:0<=pc)(p1:pc<=4294967295)(o:Bys w p n c f):QS w R pc p n c f (zbd mach n R pc f):=by
 have hn:=o.hn
 obtain⟨a,rfl⟩:=Int.eq_ofNat_of_zero_le p0
 unfold zbd fet
 by_cases hf:fits n a 4=true
 ·obtain⟨_,f1,f2⟩:=jp.1 hf
  rw[if_pos hf]
  have CL:=zcw o 13 a (by omega) ⟨by decide,by show(a:Int)%4=0;omega,by show(a:Int)+4<=n;omega⟩
  have eX:ldv 13 (fun i=>f (a+i))=le (fun k=>f ((a:Int).toNat+k)) 4:=rfl
  have xr:0<=le (fun k=>f ((a:Int).toNat+k)) 4/\le (fun k=>f ((a:Int).toNat+k)) 4<=4294967295:=by
   have h:=ke (fun k=>f ((a:Int).toNat+k)) 4 (by omega) (fun i hi=>o.hf _ (by omega))
   rw[show p256 4=4294967296 from rfl]at h
   omega
  rw[eX]at CL
  generalize le (fun k=>f ((a:Int).toNat+k)) 4=X at CL xr⊢
  cases hd:mach.dcd X with
  |some i=>
   obtain⟨x0,x1,m,hm,m1,m2,rfl⟩:=vw hd
   have h1:=zgS m (by omega) X x0 x1
   have h2:=zdf m (by omega) X x0 x1
   have h3:=zdg m (by omega) X x0 x1
   have CD:∀W,Calls prog 26 #[.int .u32 X] W fun e w'=>e=.returned (.tuple #[iv (m:Int) ((rrg X 128 (fm (kn m) 1)).toNat:Nat) ((rrg X 32768 (fm (kn m) 2)).toNat:Nat) ((rrg X 1048576 (fm (kn m) 3)).toNat:Nat) (rim (fm (kn m)) X),.bool true])/\Below W.heap.size W w':=fun W=>
    zg3 X m x0 x1 m1 m2 (zez X 48 m hm) (m:Int) ((rrg X 128 (fm (kn m) 1)).toNat:Nat) ((rrg X 32768 (fm (kn m) 2)).toNat:Nat) ((rrg X 1048576 (fm (kn m) 3)).toNat:Nat) (rim (fm (kn m)) X) ⟨rfl,Int.toNat_of_nonneg h1.1,Int.toNat_of_nonneg h2.1,Int.toNat_of_nonneg h3.1,rfl⟩ W
   have hok:=zbu hd
   have hrd:5<=(m:Int)->(m:Int)<=10->(rrg X 128 (fm (kn m) 1)).toNat=0:=fun a b=>zdD hd (.inl ⟨a,b⟩)
   clear hd hm h1 h2 h3 m1 m2
   generalize (rrg X 128 (fm (kn m) 1)).toNat=r1 at CD hok hrd⊢
   generalize (rrg X 32768 (fm (kn m) 2)).toNat=r2 at CD hok⊢
   generalize (rrg X 1048576 (fm (kn m) 3)).toNat=r3 at CD hok⊢
   generalize rim (fm (kn m)) X=I at CD hok⊢
   exact zp4 hR p0 p1 hok hrd o CL CD
  |none=>
   have hno:dcdN X 48=none:=by
    have h:dcdM X=none:=hd
    unfold dcdM at h
    rw[if_pos xr]at h
    unfold dcdW at h
    cases e:dcdN X 48 with
    |none=>rfl
    |some m=>rw[e]at h;cases h
   exact yo 2 o fun D hD hX=>zpM (hcs R a 0 0) a p n c w X D rfl rfl CL (fun W=>zb8 X xr.1 xr.2 (zhY X 48 hno) W) hX hD
 ·rw[if_neg hf]
  have CL:∀W,Below w.heap.size w W->Calls prog 24 #[.slice p n c,.int .i64 13,.int .u32 a] W fun e w'=>e=.returned (.tuple #[.int .u32 0,.bool false])/\w'=W:=fun W _=>zdZ p n c 13 a (by omega) (by omega) p1 (fun h=>hf (jp.2 ⟨by omega,h.2.1,h.2.2⟩)) W
  exact yo 1 o fun D hD hX=>znP (hcs R a 0 0) a p n c w 0 D rfl rfl CL hX hD
end
end Go.Proofs.YtpiohehijkpghabGreatDoor.Co
