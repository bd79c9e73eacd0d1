/- What slices.Concat comes to, of two slices of numbers. -/
import Derived.Lib.OwnBridge
import Derived.Deep.WholeRow
import Derived.BigQuiet
import Derived.Deep.Cut
import Derived.Test.YtpiohehijkpghacGreatDoorD06
open Array renaming getElem?_eq_some_iff->Ah
open Go renaming cell_of_row->Ad,rounds_succ->Ag,info_parts->Ar,wpList_append_own->As
open Go.Addr renaming add_lit->AD
open Go.Ending renaming returned->Ay
open Go.Lib renaming run_eql_slice_nil->An
open Go.Region renaming wanted->AA
open Go.Result renaming andThen_ok->Au
open Go.RowKit.Below renaming refl->Ab
open Go.Sem renaming run_bind->AE
open Go.Value renaming int->Av,ownBlock->Az
open Go.WalkArith renaming wf_i64->Am
open Go.World renaming block_lt_of_cell?->Af,ownsRow_made->Ai
open Go.World.grownBy renaming refl->AF
open List renaming getElem?_eq_some_iff->Ae,getElem?_append_right->Aj,getElem?_append_left->Al,getElem?_eq_none->Ao,range->Aq,mem_map->AB
open Nat renaming le_refl->Aa,lt_of_lt_of_le->Ak,pow_le_pow_right->Ap,zero_add->At,zero_le->Aw,le_trans->AC
open Option.some renaming inj->Ax
set_option maxHeartbeats 1000000
set_option maxRecDepth 20000
set_option linter.unusedSimpArgs false
set_option linter.unusedVariables false
open Go.Proofs.Tryz
namespace Go.Proofs.YtpiohehijkpghacGreatDoor
open Go.RowKit
open Hy
structure Fr(w:World)(B h n:Nat)(f:Nat->Int):Prop where
 base:B<=h
 lt:h<w.heap.size
 cell:∀i,i<n->w.cell? ⟨h,i,none⟩=some (.int .u8 (f i))
 free:∀i,i<n->w.frozen? ⟨h,i,none⟩=false
theorem Fr.congr{w:World}{B h n:Nat}{f f':Nat->Int}(H:Fr w B h n f)(e:∀i,i<n->f i=f' i):Fr w B h n f':=
 ⟨H.base,H.lt,fun i hi=>by rw[<-e i hi];exact H.cell i hi,H.free⟩
theorem Fr.set{w:World}{B h n:Nat}{f:Nat->Int}(H:Fr w B h n f)(k:Nat)(hk:k<n)(v:Int):Fr (w.setCell ⟨h,k,none⟩ (.int .u8 v)) B h n (fun i=>if i=k then v else f i):=by
 refine⟨H.base,by simpa using H.lt,fun i hi=>?_,fun i hi=>by rw[World.frozen?_setCell];exact H.free i hi⟩
 by_cases e:i=k
 ·subst e
  rw[World.cell?_setCell_same _ _ _ (H.cell i hi),if_pos rfl]
 ·rw[World.cell?_setCell_other _ _ _ _ (by intro h';cases h';omega),if_neg e]
  exact H.cell i hi
theorem zm4:(prog.info? 5).map (fun i=>(i.zero,i.size,i.bytes))=some (some (.int .u8 0),1,1):=by kernel_rfl
theorem zgo{w:World}{B n:Nat}{v:Value}{f:Nat->Int}(hn:0<n)(hown:w.ownsRow B 5 1 v n ((Aq n).map fun i=>Av .u8 (f i))):
  ∃h cap,v=.slice (some ⟨h,0,none⟩) n cap/\n<=cap/\cap<=maxLen/\Fr w B h n f:=by
 have hown0:=hown
 obtain⟨_,hcase⟩:=hown
 rcases hcase with⟨_,h0⟩|⟨g,cap',cur,rfl,hg,hh,hn',hcap,hsz,htake⟩
 ·omega
 ·refine⟨g,cap',rfl,hn',hcap,hg,?_,fun i hi=>?_,fun i hi=>by simp[World.frozen?,hh]⟩
  ·exact(Ah.1 hh).1
  ·rw[hown0.cellAt i (by omega)]
   simp[hi]
theorem ve(g o n c:Nat)(f:Nat->Int)(h0:0<n)(hn:n<=140737488355328)(w:World)(hc:Lies w g o n f):
  Calls prog 35 #[.slice (some ⟨g,o,none⟩) n c] w fun e w'=>(∃h cap,e=.returned (.slice (some ⟨h,0,none⟩) n cap)/\n<=cap/\cap<=maxLen/\Fr w' w.heap.size h n f)/\Below w.heap.size w w':=by
 obtain⟨i0,hi,hz0,hz1,hz2⟩:=Ar zm4
 have q22:∀(w:World) (a:Option Addr) (n c n' c':Nat),(binOp .eql 28 (.slice a n c) (.slice none n' c')).run prog w=.ok (.bool a.isNone) w:=fun w a n c n' c'=>An w _ _ a n c n' c' underlying28
 have A:Hid (Lies w g o n f):=hc
 clear hc
 go_enter func35,ntmps35
 go_wp2_with(at_builtin;refine As _ rfl _ _ 28 rfl w.heap.size 5 i0 (.int .u8 0) 1 1 underlying28 hi hz0 hz1 hz2 rfl (by decide) _ _ _ rfl (Ai w #[] 0 (Aa _) (Aw _) rfl) ⟨g,o,none⟩ n c ((Aq n).map fun i=>Av .u8 (f i)) rfl ?qc1 ?qc2 ?qc3 ?qc4 ?qc5 ?qc6 ?_)
 case qc1=>simp
 case qc2=>
  intro j u hj
  have hjn:j<n:=by
   have:=(Ae.1 hj).1
   simpa using this
  have hb:=Af _ _ (A.out j hjn)
  rw[((Ab w.heap.size w).alloc (Aa _) _).cell (by rw[Go.WideShapes.add_plain];exact hb)]
  simp[hjn]at hj
  rw[<-hj,Go.WideShapes.add_plain]
  exact A.out j hjn
 case qc3=>intro u hu;obtain⟨x,_,rfl⟩:=AB.1 hu;rfl
 case qc4=>unfold maxLen;omega
 case qc5=>omega
 case qc6=>simp
 intro v' w1 hown hgrow hnil
 go_wp2
 go_ret
 have hown':w1.ownsRow w.heap.size 5 1 v' n ((Aq n).map fun i=>Av .u8 (f i)):=by simpa using hown
 obtain⟨h,cap,rfl,a1,a2,a3⟩:=zgo h0 hown'
 exact⟨⟨h,cap,rfl,a1,a2,a3⟩,((Ab _ w).alloc (Aa _) _).grown hgrow (by simp) (by intro k hk;simp[Az]at hk;omega)⟩
def sto(f:Nat->Int)(a:Nat)(W:Int)(j i:Nat):Int:=if a<=i/\i<a+j then W/p256 (i-a)%256 else f i
theorem ziL(f:Nat->Int)(a:Nat)(W:Int)(j i:Nat):(if i=a+j then W/p256 j%256 else sto f a W j i)=sto f a W (j+1) i:=by
 unfold sto
 by_cases e:i=a+j
 ·subst e
  rw[if_pos rfl,if_pos ⟨by omega,by omega⟩,show a+j-a=j by omega]
 ·rw[if_neg e]
  by_cases h:a<=i/\i<a+j
  ·rw[if_pos h,if_pos ⟨h.1,by omega⟩]
  ·rw[if_neg h,if_neg (by omega)]
theorem Fr.step{w:World}{B h n:Nat}{f:Nat->Int}{a j:Nat}{W:Int}(H:Fr w B h n (sto f a W j))(hk:a+j<n)(v:Int)(hv:v=W/p256 j%256):Fr (w.setCell ⟨h,a+j,none⟩ (.int .u8 v)) B h n (sto f a W (j+1)):=by
 subst hv
 exact(H.set (a+j) hk _).congr fun i _=>ziL f a W j i
theorem zgp(p:Option Addr)(n c:Nat)(op a:Int)(hn:n<=140737488355328)(a0:0<=a)(a1:a<=4294967295)(h:¬(0<stn op/\a%stn op=0/\a+stn op<=n))(w:World):
  Calls prog 111 #[.slice p n c,.int .i64 op,.int .u32 a] w fun e w'=>e=.returned (.int .u32 0)/\w'=w:=by
 have hd:decide (0<stn op/\a%stn op=0/\a+stn op<=n)=false:=decide_eq_false h
 have hm:=yX op
 obtain⟨m,hM⟩:∃m,m=stn op:=⟨_,rfl⟩
 have C1:=zal op
 rw[<-hM]at hd hm C1
 have C2:=fun w=>xo p n c a m hn a0 a1 hm w
 rw[hd]at C2
 clear hM h hd hm
 go_enter func111,ntmps111
 go_wp2_with fail
 refine(C1 _).mono ?_
 rintro e w' ⟨rfl,rfl⟩
 go_wp2_with fail
 refine(C2 _).mono ?_
 rintro e w' ⟨rfl,rfl⟩
 go_wp2_with fail
 go_ret
 exact⟨rfl,rfl⟩
theorem zam(p:Option Addr)(n c:Nat)(op a:Int)(hn:n<=140737488355328)(a0:0<=a)(a1:a<=4294967295)(h:0<stn op/\a%stn op=0/\a+stn op<=n)(w:World):
  Calls prog 111 #[.slice p n c,.int .i64 op,.int .u32 a] w fun e w'=>e=.returned (.int .u32 (stn op))/\w'=w:=by
 have hd:decide (0<stn op/\a%stn op=0/\a+stn op<=n)=true:=decide_eq_true h
 have hm:=yX op
 obtain⟨m,hM⟩:∃m,m=stn op:=⟨_,rfl⟩
 have C1:=zal op
 rw[<-hM]at hd hm C1⊢
 have C2:=fun w=>xo p n c a m hn a0 a1 hm w
 rw[hd]at C2
 clear hM h hd hm
 go_enter func111,ntmps111
 go_wp2_with fail
 refine(C1 _).mono ?_
 rintro e w' ⟨rfl,rfl⟩
 go_wp2_with fail
 refine(C2 _).mono ?_
 rintro e w' ⟨rfl,rfl⟩
 go_wp2_with fail
 go_ret
 exact⟨rfl,rfl⟩
end Go.Proofs.YtpiohehijkpghacGreatDoor
namespace Go.Proofs.YtpiohehijkpghacGreatDoor.Od
open Go.Proofs.YtpiohehijkpghacGreatDoor.Wi
open Go.RowKit
open Hy
structure Ac where
 seq:Int
 st:Bool
 kn:Bool
 pl:Int
 many:Int
 data:Int
 done:Bool
structure Ac.Ok(a:Ac):Prop where
 p0:0<=a.pl
 p1:a.pl<=4294967295
 d0:0<=a.data
 d1:a.data<=4294967295
 m0:-9223372036854775808<=a.many
 m1:a.many<=9223372036854775807
def cel(p:Ac):List Value:=[.int .i64 p.seq,.bool p.st,.bool p.kn,.int .u32 p.pl,.int .i64 p.many,.int .u32 p.data,.bool p.done]
abbrev acv(p:Ac):Value:=.agg #[.int .i64 p.seq,.bool p.st,.bool p.kn,.int .u32 p.pl,.int .i64 p.many,.int .u32 p.data,.bool p.done]
def acs:List Ac->List Value
 |[]=>[]
 |p::l=>cel p++acs l
theorem vf:∀l:List Ac,(acs l).length=l.length*7
 |[]=>rfl
 |p::l=>by have:=vf l;simp[acs,cel,this];omega
theorem yj:∀(l:List Ac) (k j:Nat) (p:Ac) (u:Value),l[k]?=some p->(cel p)[j]?=some u->(acs l)[k*7+j]?=some u
 |[],k,j,p,u,h,hu=>by simp at h
 |q::l,0,j,p,u,h,hu=>by
  simp at h;subst h
  have hj:j<(cel q).length:=(Ae.1 hu).1
  rw[acs,Nat.zero_mul,At,Al hj]
  exact hu
 |q::l,k+1,j,p,u,h,hu=>by
  have:=yj l k j p u (by simpa using h) hu
  rw[acs,Aj (by simp[cel];omega)]
  rw[show(k+1)*7+j-(cel q).length=k*7+j by simp[cel];omega]
  exact this
theorem xa(p:Ac):∀u∈cel p,u.oneCell'=true:=by
 intro u hu
 simp only[cel,List.mem_cons,List.not_mem_nil,or_false]at hu
 rcases hu with rfl|rfl|rfl|rfl|rfl|rfl|rfl<;>rfl
def wd(a:Ac):Int:=if a.many<0 then 0 else if 4<a.many then 4 else a.many
theorem zd1(a:Ac):0<=wd a/\wd a<=4:=by unfold wd;split<;>(try split)<;>omega
def hs(a:Ac)(x:Int):Bool:=decide (a.pl<=x/\x<a.pl+wd a)
def ahd(seq:Int)(a:Ac):Bool:=a.st&&decide (a.seq<seq)
def unk(seq:Int)(a:Ac):Bool:=ahd seq a&&!a.kn
def sto1(seq:Int)(a:Ac):Bool:=a.st&&a.kn&&decide (a.seq=seq)
def ovr(seq:Int)(a:Ac):Bool:=!a.st&&a.done&&a.kn&&decide (seq<a.seq)
def gv(seq x:Int)(a:Ac):Bool:=ahd seq a&&a.kn&&hs a x
def mt(s a:Ac):Bool:=decide (s.pl<a.pl+wd a/\a.pl<s.pl+wd s/\0<wd s/\0<wd a)
def aft(l:List Ac)(o:Option Nat)(a:Ac):Bool:=match o with
 |none=>true
 |some j=>match l[j]? with
  |none=>true
  |some q=>decide (q.seq<=a.seq)
def bst(l:List Ac)(seq x:Int):Nat->Option Nat
 |0=>none
 |k+1=>match l[k]? with
  |none=>bst l seq x k
  |some a=>if(gv seq x a&&aft l (bst l seq x k) a)=true then some k else bst l seq x k
theorem kd(l:List Ac)(seq x:Int):∀k j,bst l seq x k=some j->j<k/\∃q,l[j]?=some q/\gv seq x q=true
 |0,j,h=>by simp[bst]at h
 |k+1,j,h=>by
  unfold bst at h
  split at h
  ·obtain⟨h1,h2⟩:=kd l seq x k j h
   exact⟨by omega,h2⟩
  ·rename_i a ha
   split at h
   ·rename_i hc
    cases h
    simp at hc
    exact⟨by omega,a,ha,hc.1⟩
   ·obtain⟨h1,h2⟩:=kd l seq x k j h
    exact⟨by omega,h2⟩
theorem zgq{l:List Ac}{seq x:Int}{k:Nat}{a:Ac}(ha:l[k]?=some a)(h:gv seq x a=false):bst l seq x (k+1)=bst l seq x k:=by
 rw[bst,ha]
 simp[h]
theorem zgr{l:List Ac}{seq x:Int}{k:Nat}{a:Ac}(ha:l[k]?=some a)(h:gv seq x a=true)(hn:bst l seq x k=none):bst l seq x (k+1)=some k:=by
 rw[bst,ha]
 simp[h,hn,aft]
theorem ziM{l:List Ac}{seq x:Int}{k j:Nat}{a q:Ac}(ha:l[k]?=some a)(h:gv seq x a=true)(hj:bst l seq x k=some j)(hq:l[j]?=some q)(hle:q.seq<=a.seq):bst l seq x (k+1)=some k:=by
 rw[bst,ha]
 simp[h,hj,aft,hq,hle]
theorem ziN{l:List Ac}{seq x:Int}{k j:Nat}{a q:Ac}(ha:l[k]?=some a)(hj:bst l seq x k=some j)(hq:l[j]?=some q)(hle:a.seq<q.seq):bst l seq x (k+1)=bst l seq x k:=by
 rw[bst,ha]
 have:¬q.seq<=a.seq:=by omega
 simp[hj,aft,hq,this]
def byt(a:Ac)(x:Int):Int:=a.data/two (8*(x-a.pl).toNat)%256
theorem zk4(a:Ac)(x:Int):0<=byt a x/\byt a x<=255:=by unfold byt;omega
def seen(l:List Ac)(seq x m:Int)(k:Nat):Int:=match bst l seq x k with
 |none=>m
 |some j=>match l[j]? with
  |none=>m
  |some q=>byt q x
theorem zd2(l:List Ac)(seq x m:Int)(k:Nat)(h:0<=m/\m<=255):0<=seen l seq x m k/\seen l seq x m k<=255:=by
 unfold seen
 split
 ·exact h
 ·split
  ·exact h
  ·exact zk4 _ _
theorem seen_none{l:List Ac}{seq x m:Int}{k:Nat}(h:bst l seq x k=none):seen l seq x m k=m:=by unfold seen;rw[h]
theorem ke{l:List Ac}{seq x m:Int}{k j:Nat}{q:Ac}(h:bst l seq x k=some j)(hq:l[j]?=some q):seen l seq x m k=byt q x:=by unfold seen;rw[h];simp only[hq]
structure FirstA(p:Ac->Bool)(l:List Ac)(m:Nat):Prop where
 le:m<=l.length
 no:∀j q,j<m->l[j]?=some q->p q=false
 yes:∀q,l[m]?=some q->p q=true
theorem kg(p:Ac->Bool):∀l,∃m,FirstA p l m
 |[]=>⟨0,Aa _,fun j q h=>absurd h (by omega),fun q h=>by simp at h⟩
 |q::l=>by
  cases hq:p q with
  |true=>exact⟨0,Aw _,fun j q h=>absurd h (by omega),fun q' h=>by simp at h;subst h;exact hq⟩
  |false=>
   obtain⟨m,h⟩:=kg p l
   refine⟨m+1,by have:=h.le;simp;omega,fun j q' hj hq'=>?_,fun q' h'=>h.yes q' (by simpa using h')⟩
   cases j with
   |zero=>simp at hq';subst hq';exact hq
   |succ j=>exact h.no j q' (by omega) (by simpa using hq')
theorem zd3{l:List Ac}{k:Nat}(h:k<l.length):∃p,l[k]?=some p:=⟨_,List.getElem?_eq_getElem h⟩
def bef(o:Option Int)(a:Ac):Bool:=match o with
 |none=>true
 |some x=>decide (a.seq<x)
def lst(l:List Ac)(s:Ac):Nat->Option Int
 |0=>none
 |k+1=>match l[k]? with
  |none=>lst l s k
  |some a=>if(ovr s.seq a&&mt s a&&bef (lst l s k) a)=true then some a.seq else lst l s k
theorem zkc{l:List Ac}{s a:Ac}{k:Nat}(ha:l[k]?=some a)(h:(ovr s.seq a&&mt s a)=false):lst l s (k+1)=lst l s k:=by
 rw[lst,ha]
 simp only[h,Bool.false_and]
 rfl
theorem zgs{l:List Ac}{s a:Ac}{k:Nat}(ha:l[k]?=some a)(h:(ovr s.seq a&&mt s a)=true)(hn:lst l s k=none):lst l s (k+1)=some a.seq:=by
 rw[lst,ha]
 simp only[h,hn,bef]
 rfl
theorem ziO{l:List Ac}{s a:Ac}{k:Nat}{x:Int}(ha:l[k]?=some a)(h:(ovr s.seq a&&mt s a)=true)(hx:lst l s k=some x)(hlt:a.seq<x):lst l s (k+1)=some a.seq:=by
 rw[lst,ha]
 simp only[h,hx,bef,hlt]
 rfl
theorem ziP{l:List Ac}{s a:Ac}{k:Nat}{x:Int}(ha:l[k]?=some a)(hx:lst l s k=some x)(hle:x<=a.seq):lst l s (k+1)=lst l s k:=by
 rw[lst,ha]
 have:¬a.seq<x:=by omega
 simp[hx,bef,this]
theorem zm5{s a:Ac}{x:Int}(h1:hs s x=true)(h2:hs a x=true):mt s a=true:=by
 simp only[hs,decide_eq_true_eq]at h1 h2
 exact decide_eq_true ⟨by omega,by omega,by omega,by omega⟩
theorem zo2{s a:Ac}(h:mt s a=true):∃x,(x=s.pl\/x=a.pl)/\hs s x=true/\hs a x=true:=by
 simp only[mt,decide_eq_true_eq]at h
 by_cases hle:a.pl<=s.pl
 ·exact⟨s.pl,.inl rfl,decide_eq_true ⟨by omega,by omega⟩,decide_eq_true ⟨by omega,by omega⟩⟩
 ·exact⟨a.pl,.inr rfl,decide_eq_true ⟨by omega,by omega⟩,decide_eq_true ⟨by omega,by omega⟩⟩
def four(f:Nat->Int):Int:=f 0+f 1*256+f 2*65536+f 3*16777216
def upto(m:Nat)(f:Nat->Int):Nat->Int:=fun i=>if i<m then f i else 0
theorem zgt(m:Nat)(hm:m=1\/m=2\/m=4)(f:Nat->Int):le f m=four (upto m f):=by
 rcases hm with rfl|rfl|rfl<;>simp[le,four,upto]
def put1(f:Nat->Int)(n:Nat)(b:Int):Nat->Int:=fun i=>if i=n then b else f i
theorem ziQ(k W:Nat)(hk:k<=32)(h:W<4294967296):W&&& ((2^(32-k)-1)<<<k)=2^k*(W/2^k):=by
 apply Nat.eq_of_testBit_eq
 intro j
 rw[Nat.testBit_and,Nat.testBit_shiftLeft,Nat.testBit_two_pow_sub_one,Nat.testBit_two_pow_mul,Nat.testBit_div_two_pow]
 by_cases hj:k<=j
 ·by_cases h32:j<32
  ·simp[hj]
   intro _;omega
  ·have:W.testBit j=false:=Nat.testBit_lt_two_pow (Ak h (by rw[show 4294967296=2^32 by rfl];exact Ap (by omega) (by omega)))
   rw[show j-k+k=j by omega]
   simp[this]
 ·simp[hj]
theorem ki(i W:Nat)(hi:i=0\/i=8\/i=16\/i=24)(h:W<4294967296):W&&& (4294967295-255*2^i)=W%2^i+2^(i+8)*(W/2^(i+8)):=by
 have e:4294967295-255*2^i=(2^i-1)|||((2^(32-(i+8))-1)<<<(i+8)):=by rcases hi with rfl|rfl|rfl|rfl<;>decide
 rw[e,Nat.and_or_distrib_left,Nat.and_two_pow_sub_one_eq_mod,ziQ _ _ (by omega) h,Nat.or_comm]
 rw[nat_join (i+8) _ _ (by simp) (Ak (Nat.mod_lt _ (Nat.two_pow_pos _)) (Ap (by omega) (by omega)))]
 omega
theorem zk5(i:Nat)(hi:i=0\/i=8\/i=16\/i=24)(P W b:Int)(hP:P=((2^i:Nat):Int))(w0:0<=W)(w1:W<4294967296)(b0:0<=b)(b1:b<=255):
  bits .or .u32 (bits .andNot .u32 W (255*P)) (b*P)=W%P+b*P+256*P*(W/(256*P)):=by
 obtain⟨N,rfl⟩:=Int.eq_ofNat_of_zero_le w0
 have hN:N<4294967296:=by omega
 rcases hi with rfl|rfl|rfl|rfl
 ·obtain rfl:P=1:=hP
  have e1:bits .andNot .u32 (N:Int) (255*1)=(N:Int)%1+256*((N:Int)/256):=by
   have h1:=u32_andNot_nat N 255 hN (by omega)
   have h2:N&&& (4294967295-255)=N%1+256*(N/256):=ki 0 N (by omega) hN
   rw[h2]at h1
   refine h1.trans ?_
   omega
  rw[e1,qe 0 8 (by omega) 1 256 _ _ rfl rfl (by omega) (by omega) (by omega) (by omega) (by omega) (by omega) (by omega)]
  omega
 ·obtain rfl:P=256:=hP
  have e1:bits .andNot .u32 (N:Int) (255*256)=(N:Int)%256+65536*((N:Int)/65536):=by
   have h1:=u32_andNot_nat N 65280 hN (by omega)
   have h2:N&&& (4294967295-65280)=N%256+65536*(N/65536):=ki 8 N (by omega) hN
   rw[h2]at h1
   refine h1.trans ?_
   omega
  rw[e1,qe 8 16 (by omega) 256 65536 _ _ rfl rfl (by omega) (by omega) (by omega) (by omega) (by omega) (by omega) (by omega)]
  omega
 ·obtain rfl:P=65536:=hP
  have e1:bits .andNot .u32 (N:Int) (255*65536)=(N:Int)%65536+16777216*((N:Int)/16777216):=by
   have h1:=u32_andNot_nat N 16711680 hN (by omega)
   have h2:N&&& (4294967295-16711680)=N%65536+16777216*(N/16777216):=ki 16 N (by omega) hN
   rw[h2]at h1
   refine h1.trans ?_
   omega
  rw[e1,qe 16 24 (by omega) 65536 16777216 _ _ rfl rfl (by omega) (by omega) (by omega) (by omega) (by omega) (by omega) (by omega)]
  omega
 ·obtain rfl:P=16777216:=hP
  have e1:bits .andNot .u32 (N:Int) (255*16777216)=(N:Int)%16777216+4294967296*((N:Int)/4294967296):=by
   have h1:=u32_andNot_nat N 4278190080 hN (by omega)
   have h2:N&&& (4294967295-4278190080)=N%16777216+4294967296*(N/4294967296):=ki 24 N (by omega) hN
   rw[h2]at h1
   refine h1.trans ?_
   omega
  rw[e1,qe 24 32 (by omega) 16777216 4294967296 _ _ rfl rfl (by omega) (by omega) (by omega) (by omega) (by omega) (by omega) (by omega)]
  omega
theorem ziR(n:Nat)(f:Nat->Int)(b W P:Int)(hn:n<4)(hP:P=((2^(8*n):Nat):Int))(hf:∀i,0<=f i/\f i<=255)(b0:0<=b)(b1:b<=255)(hW:W=four f):
  bits .or .u32 (bits .andNot .u32 W (255*P)) (b*P)=four (put1 f n b):=by
 have h0:=hf 0
 have h1:=hf 1
 have h2:=hf 2
 have h3:=hf 3
 have w0:0<=W/\W<4294967296:=by subst hW;unfold four;omega
 rw[zk5 (8*n) (by omega) P W b hP w0.1 w0.2 b0 b1]
 subst hW
 rcases(by omega:n=0\/n=1\/n=2\/n=3)with rfl|rfl|rfl|rfl
 ·obtain rfl:P=1:=hP
  simp[four,put1];omega
 ·obtain rfl:P=256:=hP
  simp[four,put1];omega
 ·obtain rfl:P=65536:=hP
  simp[four,put1];omega
 ·obtain rfl:P=16777216:=hP
  simp[four,put1];omega
end Go.Proofs.YtpiohehijkpghacGreatDoor.Od
namespace Go.Proofs.YtpiohehijkpghacGreatDoor.Od
open Go.Proofs.YtpiohehijkpghacGreatDoor.Wi
open Go.RowKit
open Hy
def sb(l:List Ac)(seq:Int)(n A:Nat)(f:Nat->Int):Nat->Int:=fun i=>seen l seq ((A:Int)+i) (f (A+i)) n
theorem zbG{l:List Ac}{seq:Int}{n A:Nat}{f:Nat->Int}{i:Nat}(h:0<=f (A+i)/\f (A+i)<=255):0<=sb l seq n A f i/\sb l seq n A f i<=255:=zd2 _ _ _ _ _ h
def Sure(l:List Ac)(seq:Int)(k:Nat)(U:Bool):Prop:=U=true↔∀(j:Nat) (q:Ac),j<k->l[j]?=some q->unk seq q=false
theorem Sure.eq{l:List Ac}{seq:Int}{n m:Nat}{U:Bool}(h:Sure l seq n U)(hm:FirstA (unk seq) l m)(hl:l.length=n):U=!(decide (m<n)):=by
 unfold Sure at h
 by_cases hlt:m<n
 ·obtain⟨q,hq⟩:=zd3 (l:=l) (k:=m) (by omega)
  have:¬U=true:=fun hu=>by have h1:=h.1 hu m q hlt hq;rw[hm.yes q hq]at h1;cases h1
  simp[hlt]
  simpa using this
 ·have:U=true:=h.2 fun j q hj hq=>hm.no j q (by omega) hq
  simp[hlt,this]
def Fit(many:Int)(A ml:Nat):Prop:=(many=1\/many=2\/many=4)/\(A:Int)%many=0/\(A:Int)+many<=ml
end Go.Proofs.YtpiohehijkpghacGreatDoor.Od
namespace Go.Proofs.YtpiohehijkpghacGreatDoor.Re.Hy
open Go.RowKit
def cn(g:Nat->Int)(x:Int):Nat->Nat
 |0=>0
 |k+1=>cn g x k+(if g k=x then 1 else 0)
def sm(h:Nat->Nat):Nat->Nat
 |0=>0
 |k+1=>sm h k+h k
def jn(r f:Nat->Int)(i:Nat):Int:=if i<32 then r i else f (i-32)
theorem jn_r{r f:Nat->Int}{i:Nat}(h:i<32):jn r f i=r i:=if_pos h
theorem jn_f{r f:Nat->Int}(i:Nat):jn r f (32+i)=f i:=by
 unfold jn
 rw[if_neg (by omega),show 32+i-32=i by omega]
theorem zm6(g:Nat->Int)(x:Int):∀n,cn g x n<=n
 |0=>Aa _
 |n+1=>by
  have:=zm6 g x n
  unfold cn
  split<;>omega
theorem zaP(g:Nat->Int)(x:Int):∀n,cn g x n=0↔∀i,i<n->g i≠x
 |0=>⟨fun _ i h=>absurd h (by omega),fun _=>rfl⟩
 |n+1=>by
  have ih:=zaP g x n
  constructor
  ·intro h i hi
   have h':cn g x n+(if g n=x then 1 else 0)=0:=h
   by_cases e:g n=x
   ·rw[if_pos e]at h';omega
   ·rcases(by omega:i<n\/i=n)with q|q
    ·exact ih.1 (by omega) i q
    ·rw[q];exact e
  ·intro h
   show cn g x n+(if g n=x then 1 else 0)=0
   rw[if_neg (h n (by omega)),ih.2 (fun i hi=>h i (by omega))]
theorem zgu(g:Nat->Int)(Q:Int->Prop):∀n,(∀i,i<n->Q (g i))->((∀x,Q x->cn g x n<=1)↔∀i j,i<n->j<n->g i=g j->i=j)
 |0,_=>⟨fun _ i _ h=>absurd h (by omega),fun _ x _=>by simp[cn]⟩
 |n+1,hQ=>by
  have ih:=zgu g Q n (fun i hi=>hQ i (by omega))
  constructor
  ·intro h
   have h1:∀x,Q x->cn g x n<=1:=fun x hx=>by
    have:=h x hx
    unfold cn at this
    omega
   have h2:∀i,i<n->g i≠g n:=by
    have h3:=h (g n) (hQ n (by omega))
    unfold cn at h3
    rw[if_pos rfl]at h3
    exact(zaP g (g n) n).1 (by omega)
   intro i j hi hj e
   rcases(by omega:i<n\/i=n)with a|a<;>rcases(by omega:j<n\/j=n)with b|b
   ·exact(ih.1 h1) i j a b e
   ·subst b;exact absurd e (h2 i a)
   ·subst a;exact absurd e.symm (h2 j b)
   ·omega
  ·intro h x hx
   have h1:=ih.2 (fun i j hi hj e=>h i j (by omega) (by omega) e) x hx
   unfold cn
   by_cases e:g n=x
   ·have:cn g x n=0:=(zaP g x n).2 fun i hi e2=>by
     have:=h i n (by omega) (by omega) (by rw[e,e2])
     omega
    rw[if_pos e];omega
   ·rw[if_neg e];omega
theorem zd4{a b:Nat->Nat}:∀n,(∀i,i<n->a i=b i)->sm a n=sm b n
 |0,_=>rfl
 |n+1,e=>by
  unfold sm
  rw[zd4 n (fun i hi=>e i (by omega)),e n (by omega)]
theorem zgv{a b:Nat->Nat}:∀n,(∀i,i<n->a i<=b i)->sm a n<=sm b n
 |0,_=>Aa _
 |n+1,e=>by
  have h1:=zgv n (fun i hi=>e i (by omega))
  have h2:=e n (by omega)
  unfold sm
  omega
theorem zm7{a b:Nat->Nat}:∀n,(∀i,i<n->a i<=b i)->sm a n=sm b n->∀i,i<n->a i=b i
 |0,_,_=>fun i h=>absurd h (by omega)
 |n+1,e,h=>fun i hi=>by
  have h1:=zgv n (fun i hi=>e i (by omega))
  have h2:=e n (by omega)
  unfold sm at h
  rcases(by omega:i<n\/i=n)with q|q
  ·exact zm7 n (fun i hi=>e i (by omega)) (by omega) i q
  ·subst q;omega
theorem zgw{a:Nat->Nat}(n:Nat)(h:∀i,i<n->a i<=1):sm a n<=n:=by
 have:∀n,sm (fun _=>1) n=n:=fun n=>by
  induction n with
  |zero=>rfl
  |succ n ih=>show sm _ n+1=n+1;rw[ih]
 exact AC (zgv n h) (Nat.le_of_eq (this n))
theorem zkd(a b:Nat->Nat):∀n,sm (fun i=>a i+b i) n=sm a n+sm b n
 |0=>rfl
 |n+1=>by
  show sm (fun i=>a i+b i) n+(a n+b n)=sm a n+a n+(sm b n+b n)
  rw[zkd a b n]
  omega
theorem zke(y:Int):∀n:Nat,sm (fun p=>if y=(p:Int)then 1 else 0) n=if 0<=y/\y<n then 1 else 0
 |0=>by simp[sm]
 |n+1=>by
  show sm (fun p=>if y=(p:Int)then 1 else 0) n+(if y=(n:Int)then 1 else 0)=_
  rw[zke y n]
  by_cases e:y=n
  ·rw[if_neg (by omega),if_pos e,if_pos (by omega)]
  ·rw[if_neg e]
   by_cases q:0<=y/\y<n
   ·rw[if_pos q,if_pos (by omega)]
   ·rw[if_neg q,if_neg (by omega)]
theorem zm8(g:Nat->Int)(P:Nat):∀N,sm (fun p=>cn g p (N+1)) P=sm (fun p=>cn g p N) P+if 0<=g N/\g N<P then 1 else 0:=fun N=>by
 have:sm (fun p=>cn g p (N+1)) P=sm (fun p=>cn g p N+(if g N=(p:Int)then 1 else 0)) P:=rfl
 rw[this,zkd,zke]
theorem yu(g:Nat->Int)(P:Nat):∀N,sm (fun p=>cn g p N) P<=N
 |0=>by
  have:sm (fun p=>cn g p 0) P<=sm (fun _=>0) P:=zgv P (fun i _=>Aa _)
  have h0:∀n,sm (fun _=>0) n=0:=fun n=>by induction n with
   |zero=>rfl
   |succ n ih=>show sm _ n+0=0;rw[ih]
  rw[h0]at this
  exact this
 |N+1=>by
  rw[zm8]
  have:=yu g P N
  split<;>omega
theorem zbH(g:Nat->Int)(P:Nat):∀N,sm (fun p=>cn g p N) P=N↔∀i,i<N->0<=g i/\g i<P
 |0=>⟨fun _ i h=>absurd h (by omega),fun _=>by have:=yu g P 0;omega⟩
 |N+1=>by
  have ih:=zbH g P N
  have hle:=yu g P N
  rw[zm8]
  constructor
  ·intro h i hi
   by_cases e:0<=g N/\g N<P
   ·rw[if_pos e]at h
    rcases(by omega:i<N\/i=N)with q|q
    ·exact ih.1 (by omega) i q
    ·rw[q];exact e
   ·rw[if_neg e]at h;omega
  ·intro h
   rw[if_pos (h N (by omega)),ih.2 (fun i hi=>h i (by omega))]
structure All(g:Nat->Int)(N P:Nat):Prop where
 rng:∀i,i<N->0<=g i/\g i<P
 inj:∀i j,i<N->j<N->g i=g j->i=j
theorem zk6(g:Nat->Int)(N P:Nat):((∀p,p<P->cn g (p:Nat) N<=1)/\sm (fun p=>cn g p N) P=N)↔All g N P:=by
 rw[zbH]
 constructor
 ·rintro⟨h,hr⟩
  refine⟨hr,(zgu g (fun x=>0<=x/\x<P) N hr).1 fun x hx=>?_⟩
  have:=h x.toNat (by omega)
  rwa [Int.toNat_of_nonneg hx.1]at this
 ·rintro⟨hr,hi⟩
  exact⟨fun p hp=>(zgu g (fun x=>0<=x/\x<P) N hr).2 hi p ⟨by omega,by omega⟩,hr⟩
def o1(g:Nat->Int)(N p:Nat):Nat:=if cn g p N=1 then 1 else 0
theorem zaQ(g:Nat->Int)(N P:Nat):(N<=P/\sm (o1 g N) P=N)↔All g N P:=by
 rw[<-zk6]
 have hle:∀p,p<P->o1 g N p<=cn g p N:=fun p _=>by unfold o1;split<;>omega
 constructor
 ·rintro⟨h1,h2⟩
  have a:=zgv P hle
  have b:=yu g P N
  have c:=zm7 P hle (by omega)
  refine⟨fun p hp=>?_,by omega⟩
  rw[<-c p hp]
  unfold o1
  split<;>omega
 ·rintro⟨h1,h2⟩
  have c:∀p,p<P->o1 g N p=cn g p N:=fun p hp=>by
   have:=h1 p hp
   unfold o1
   split<;>omega
  have e:sm (o1 g N) P=N:=(zd4 P c).trans h2
  refine⟨?_,e⟩
  have:=zgw P (fun i hi=>(show o1 g N i<=1 by unfold o1;split<;>omega))
  omega
structure MayBe(P:Int)(n:Nat)(r f:Nat->Int):Prop where
 low:33<=P
 high:P<=96
 all:All (jn r f) (32+n) P.toNat
theorem MayBe.few{P:Int}{n:Nat}{r f:Nat->Int}(h:MayBe P n r f):32+n<=P/\n<=64:=by
 have:=((zaQ _ _ _).2 h.all).1
 have:=h.low
 have:=h.high
 omega
theorem MayBe.mk'{P:Int}{n:Nat}{r f:Nat->Int}(low:33<=P)(high:P<=96)(hr:∀i,i<32->0<=r i/\r i<P)(hf:∀i,i<n->0<=f i/\f i<P)
  (rr:∀i j,i<32->j<32->r i=r j->i=j) (ff:∀i j,i<n->j<n->f i=f j->i=j) (rf:∀i j,i<32->j<n->r i≠f j):MayBe P n r f:=by
 refine⟨low,high,fun i hi=>?_,fun i j hi hj e=>?_⟩
 ·by_cases a:i<32
  ·rw[jn_r a];have:=hr i a;omega
  ·rw[show i=32+(i-32) by omega,jn_f];have:=hf (i-32) (by omega);omega
 ·by_cases a:i<32<;>by_cases b:j<32
  ·rw[jn_r a,jn_r b]at e;exact rr i j a b e
  ·rw[jn_r a,show j=32+(j-32) by omega,jn_f]at e;exact absurd e (rf i _ a (by omega))
  ·rw[jn_r b,show i=32+(i-32) by omega,jn_f]at e;exact absurd e.symm (rf j _ b (by omega))
  ·rw[show i=32+(i-32) by omega,show j=32+(j-32) by omega,jn_f,jn_f]at e
   have:=ff (i-32) (j-32) (by omega) (by omega) e
   omega
def up(f:Nat->Int)(k:Nat)(x:Int)(j:Nat):Int:=if j=k then x else f j
theorem zeZ(f:Nat->Int)(k:Nat)(x:Int):up f k x k=x:=if_pos rfl
theorem ziS{f:Nat->Int}{k:Nat}{x:Int}{j:Nat}(h:j≠k):up f k x j=f j:=if_neg h
theorem zm9(f:Nat->Int)(k:Nat)(x y:Int):up (up f k x) k y=up f k y:=by
 funext j
 unfold up
 split<;>rfl
theorem zna(f:Nat->Int)(k:Nat):up f k (f k)=f:=by
 funext j
 unfold up
 split
 ·rename_i h;rw[h]
 ·rfl
def tl(f:Nat->Int)(i:Nat):Int:=f (i+1)
def hd(x:Int)(f:Nat->Int)(i:Nat):Int:=if i=0 then x else f (i-1)
def en(f:Nat->Int)(n:Nat)(x:Int)(i:Nat):Int:=if i<n then f i else x
structure Idle(P:Int)(n:Nat)(r f:Nat->Int)(x:Int):Prop where
 lo:0<=x
 hi:x<P
 no:cn (jn r f) x (32+n)=0
theorem Idle.mk'{P:Int}{n:Nat}{r f:Nat->Int}{x:Int}(lo:0<=x)(hi:x<P)(hr:∀i,i<32->r i≠x)(hf:∀i,i<n->f i≠x):Idle P n r f x:=by
 refine⟨lo,hi,(zaP _ _ _).2 fun i hi=>?_⟩
 by_cases a:i<32
 ·rw[jn_r a];exact hr i a
 ·rw[show i=32+(i-32) by omega,jn_f];exact hf _ (by omega)
abbrev mcs(P:Int)(r:Nat->Int)(v:Value):Array Value:=#[.int .i64 P,.int .i64 (r 0),.int .i64 (r 1),.int .i64 (r 2),.int .i64 (r 3),.int .i64 (r 4),.int .i64 (r 5),.int .i64 (r 6),.int .i64 (r 7),.int .i64 (r 8),.int .i64 (r 9),.int .i64 (r 10),.int .i64 (r 11),.int .i64 (r 12),.int .i64 (r 13),.int .i64 (r 14),.int .i64 (r 15),.int .i64 (r 16),.int .i64 (r 17),.int .i64 (r 18),.int .i64 (r 19),.int .i64 (r 20),.int .i64 (r 21),.int .i64 (r 22),.int .i64 (r 23),.int .i64 (r 24),.int .i64 (r 25),.int .i64 (r 26),.int .i64 (r 27),.int .i64 (r 28),.int .i64 (r 29),.int .i64 (r 30),.int .i64 (r 31),v]
theorem ze0(P:Int)(r:Nat->Int)(v:Value)(k:Nat)(h:k<32):(mcs P r v)[1+k]?=some (.int .i64 (r k)):=
 match k,h with
 |0,_=>rfl
 |1,_=>rfl
 |2,_=>rfl
 |3,_=>rfl
 |4,_=>rfl
 |5,_=>rfl
 |6,_=>rfl
 |7,_=>rfl
 |8,_=>rfl
 |9,_=>rfl
 |10,_=>rfl
 |11,_=>rfl
 |12,_=>rfl
 |13,_=>rfl
 |14,_=>rfl
 |15,_=>rfl
 |16,_=>rfl
 |17,_=>rfl
 |18,_=>rfl
 |19,_=>rfl
 |20,_=>rfl
 |21,_=>rfl
 |22,_=>rfl
 |23,_=>rfl
 |24,_=>rfl
 |25,_=>rfl
 |26,_=>rfl
 |27,_=>rfl
 |28,_=>rfl
 |29,_=>rfl
 |30,_=>rfl
 |31,_=>rfl
 |n+32,h=>absurd h (by omega)
theorem ze1(P:Int)(r:Nat->Int)(v:Value)(x:Int)(k:Nat)(h:k<32):(mcs P r v).setIfInBounds (1+k) (.int .i64 x)=mcs P (up r k x) v:=
 match k,h with
 |0,_=>rfl
 |1,_=>rfl
 |2,_=>rfl
 |3,_=>rfl
 |4,_=>rfl
 |5,_=>rfl
 |6,_=>rfl
 |7,_=>rfl
 |8,_=>rfl
 |9,_=>rfl
 |10,_=>rfl
 |11,_=>rfl
 |12,_=>rfl
 |13,_=>rfl
 |14,_=>rfl
 |15,_=>rfl
 |16,_=>rfl
 |17,_=>rfl
 |18,_=>rfl
 |19,_=>rfl
 |20,_=>rfl
 |21,_=>rfl
 |22,_=>rfl
 |23,_=>rfl
 |24,_=>rfl
 |25,_=>rfl
 |26,_=>rfl
 |27,_=>rfl
 |28,_=>rfl
 |29,_=>rfl
 |30,_=>rfl
 |31,_=>rfl
 |n+32,h=>absurd h (by omega)
theorem zgx(P:Int)(r:Nat->Int)(v u:Value):(mcs P r v).setIfInBounds 33 u=mcs P r u:=rfl
theorem znb(P Q:Int)(r:Nat->Int)(v:Value):(mcs P r v).setIfInBounds 0 (.int .i64 Q)=mcs Q r v:=rfl
theorem zd5(P:Int)(r:Nat->Int)(v:Value):(mcs P r v).size=34:=rfl
end Go.Proofs.YtpiohehijkpghacGreatDoor.Re.Hy
namespace Go.Proofs.YtpiohehijkpghacGreatDoor.Re
open Go.RowKit
open Re.Hy
structure Lie(w:World)(a:Option Addr)(n c:Nat)(f:Nat->Int):Prop where
 le:n<=c
 top:c<=maxLen
 nil:a=none->n=0/\c=0
 wf:∀i,i<n->(Lit.int .i64 (f i)).wf=true
 ad:∀x,a=some x->0<n->∃b o,x=⟨b,o,none⟩/\∀i,i<n->w.cell? ⟨b,o+i,none⟩=some (.int .i64 (f i))
theorem Lie.below{w w':World}{a:Option Addr}{n c:Nat}{f:Nat->Int}(h:Lie w a n c f){B:Nat}(hB:w.heap.size<=B)(hb:Below B w w'):Lie w' a n c f:=
 ⟨h.le,h.top,h.nil,h.wf,fun x hx h0=>by
  obtain⟨b,o,rfl,hc⟩:=h.ad x hx h0
  exact⟨b,o,rfl,fun i hi=>(hb.cell (p:=⟨b,o+i,none⟩) (Ak (Af _ _ (hc i hi)) hB)).trans (hc i hi)⟩⟩
theorem Lie.congr{w:World}{a:Option Addr}{n c:Nat}{f f':Nat->Int}(h:Lie w a n c f)(e:∀i,i<n->f i=f' i):Lie w a n c f':=
 ⟨h.le,h.top,h.nil,fun i hi=>by rw[<-e i hi];exact h.wf i hi,fun x hx h0=>by
  obtain⟨b,o,rfl,hc⟩:=h.ad x hx h0
  exact⟨b,o,rfl,fun i hi=>by rw[<-e i hi];exact hc i hi⟩⟩
theorem Lie.sure{w:World}{a:Option Addr}{n c:Nat}{f:Nat->Int}(h:Lie w a n c f)(hn:0<n):∃b o,a=some ⟨b,o,none⟩/\b<w.heap.size/\∀i,i<n->w.cell? ⟨b,o+i,none⟩=some (.int .i64 (f i)):=by
 cases a with
 |none=>have:=(h.nil rfl).1;omega
 |some x=>
  obtain⟨b,o,rfl,hc⟩:=h.ad x rfl hn
  exact⟨b,o,rfl,Af _ _ (hc 0 hn),hc⟩
def Far(B:Nat)(a:Option Addr):Prop:=∀x,a=some x->B<=x.block
theorem Far.mono{B B':Nat}{a:Option Addr}(h:Far B a)(hB:B'<=B):Far B' a:=fun x hx=>AC hB (h x hx)
theorem Lie.moved{w w':World}{a:Option Addr}{n c:Nat}{f:Nat->Int}(h:Lie w a n c f)(hb:∀x,a=some x->w'.heap[x.block]?=w.heap[x.block]?):Lie w' a n c f:=
 ⟨h.le,h.top,h.nil,h.wf,fun x hx h0=>by
  have e:=hb x hx
  obtain⟨b,o,rfl,hc⟩:=h.ad x hx h0
  exact⟨b,o,rfl,fun i hi=>(World.cell?_of_block (w:=w) (a:=⟨b,o+i,none⟩) e).trans (hc i hi)⟩⟩
def row(f:Nat->Int)(n:Nat):List Value:=(Aq n).map fun i=>Av .i64 (f i)
theorem xM(f:Nat->Int)(n:Nat):(row f n).length=n:=by simp[row]
theorem znc{f:Nat->Int}{n j:Nat}{u:Value}(h:(row f n)[j]?=some u):j<n/\u=.int .i64 (f j):=by
 have hj:j<n:=by have:=(Ae.1 h).1;rwa [xM]at this
 refine⟨hj,?_⟩
 simp[row,hj]at h
 exact h.symm
theorem vg(f:Nat->Int){n j:Nat}(h:j<n):(row f n)[j]?=some (.int .i64 (f j)):=by simp[row,h]
theorem row_one(f:Nat->Int)(n:Nat):∀u∈row f n,u.oneCell'=true:=by
 intro u hu
 obtain⟨x,_,rfl⟩:=AB.1 hu
 rfl
def cat(F:Nat->Int)(n:Nat)(f:Nat->Int)(i:Nat):Int:=if i<n then F i else f (i-n)
theorem zgy(F:Nat->Int)(n:Nat)(f:Nat->Int)(m:Nat):row F n++row f m=row (cat F n f) (n+m):=by
 apply List.ext_getElem?
 intro j
 by_cases h:j<n
 ·rw[Al (by rw[xM];exact h),vg _ h,vg _ (by omega)]
  unfold cat
  rw[if_pos h]
 ·rw[Aj (by rw[xM];omega),xM]
  by_cases h2:j<n+m
  ·rw[vg _ (by omega),vg _ h2]
   unfold cat
   rw[if_neg h]
  ·rw[Ao (by rw[xM];omega),Ao (by rw[xM];omega)]
theorem vh{f f':Nat->Int}{n:Nat}(e:∀i,i<n->f i=f' i):row f n=row f' n:=by
 unfold row
 apply List.map_congr_left
 intro i hi
 rw[e i (by simpa using hi)]
theorem kM{w:World}{B e n:Nat}{v:Value}{f:Nat->Int}(hown:w.ownsRow B e 1 v n (row f n))(hw:∀i,i<n->(Lit.int .i64 (f i)).wf=true):∃a c,v=.slice a n c/\Lie w a n c f/\Far B a:=by
 have hown0:=hown
 obtain⟨_,hcase⟩:=hown
 rcases hcase with⟨rfl,rfl⟩|⟨g,cap,cur,rfl,hg,hh,hn',hcap,hsz,htake⟩
 ·exact⟨none,0,rfl,⟨Aa _,by unfold maxLen;omega,fun _=>⟨rfl,rfl⟩,hw,fun x hx _=>by cases hx⟩,fun x hx=>by cases hx⟩
 ·refine⟨_,cap,rfl,⟨hn',hcap,fun h=>(nomatch h),hw,fun x hx _=>⟨g,0,(Ax hx).symm,fun i hi=>?_⟩⟩,fun x hx=>by obtain rfl:=Ax hx;exact hg⟩
  have:=hown0.cells (g:=g) rfl i _ (vg f hi)
  rwa [AD]at this
theorem qp{P:Program}(w:World){ops:Array Oper}{rest:List Oper}{o:Oper}{a:Act}{Q:Exit->Act->World->Prop}(hgd:o.guard=none)(s x:Operand)(t:TypeId)
  (ho:o.op=.call {callee:=.builtin .append,args:=#[s,x],argTypes:=#[t,t]})
  (base:Nat) (e:TypeId) (i:TypeInfo) (ht:P.underlying t=some (.slice e)) (hi:P.info? e=some i) (hz:i.zero=some (.int .i64 0)) (hsize:i.size=1) (hby:i.bytes=8)
  (v:Value) (n:Nat) (F:Nat->Int) (hs:a.eval s=v) (hown:w.ownsRow base e 1 v n (row F n))
  (ao:Option Addr) (m c:Nat) (f:Nat->Int) (hx:a.eval x=.slice ao m c) (hl:Lie w ao m c f) (hb:n+m<=1000000) (hbase:base<=w.heap.size)
  (h:∀v' w',w'.ownsRow base e 1 v' (n+m) (row (cat F n f) (n+m))->w.grownBy w' v.ownBlock->wpList P ops Q rest (a.put o.dst v') w'):wpList P ops Q (o::rest) a w:=by
 cases ao with
 |some ad=>
  refine As w hgd s x t ho base e i (.int .i64 0) 1 8 ht hi hz hsize hby rfl (by decide) v n _ hs hown ad m c (row f m) hx (by rw[xM];omega) (fun j u hj=>?_) (row_one f m) (by unfold maxLen;omega) (by omega) hbase fun v' w' h1 h2 _=>h v' w' (by rw[<-zgy];exact h1) h2
  obtain⟨hj',rfl⟩:=znc hj
  obtain⟨b,o',rfl,hc⟩:=hl.ad ad rfl (by omega)
  rw[AD]
  exact hc j hj'
 |none=>
  obtain⟨rfl,rfl⟩:=hl.nil rfl
  refine wpList_plain hgd fun K hK'=>?_
  have hrun:=run_append_owned_none (P:=P) w base t o.type e i 1 ht hi v n _ hown
  unfold Oper.wp
  simp only[execOp,ho,resolve,invoke,builtin,AE,Sem.run_pure,Au,List.map_toArray,List.map_cons,List.map_nil,hs,hx,hrun]
  exact hK' _ _ (h v w (by rw[<-zgy];simpa[row]using hown) (AF _ _))
structure Cnts(D:DataW Unit)(g:Nat->Int)(k:Nat):Prop where
 is:Maps.IsMap D
 at':∀x,D.atKey (.int .i64 x) (.lit (.int .i64 0))=.lit (.int .i64 (cn g x k))
theorem zgz(g:Nat->Int):Cnts (.map []) g 0:=⟨⟨[],rfl⟩,fun x=>rfl⟩
theorem Cnts.num{D:DataW Unit}{g:Nat->Int}{k:Nat}(h:Cnts D g k){x c:Int}(hat:D.atKey (.int .i64 x) (.lit (.int .i64 0))=.lit (.int .i64 c)):c=cn g x k:=by
 have:=(h.at' x).symm.trans hat
 injection this with e
 injection e with _ e
 exact e.symm
theorem Cnts.step{D:DataW Unit}{g:Nat->Int}{k:Nat}(h:Cnts D g k){y c:Int}(hy:y=c+1)(hc:c=cn g (g k) k):Cnts (D.put (.int .i64 (g k)) (.lit (.int .i64 y))) g (k+1):=by
 refine⟨h.is.put _ _,fun x=>?_⟩
 by_cases e:g k=x
 ·subst e
  rw[Maps.atKey_put_same (k:=.int .i64 (g k)) h.is (show WideAt.IsKeyLit (.int .i64 (g k))from trivial),hy,hc]
  show _=DataW.lit (Lit.int _ ((cn g (g k) k+(if g k=g k then 1 else 0):Nat):Int))
  rw[if_pos rfl]
  rfl
 ·rw[Maps.atKey_put_other (by intro e2;injection e2 with _ e2;exact e e2.symm),h.at' x]
  show _=DataW.lit (Lit.int _ ((cn g x k+(if g k=x then 1 else 0):Nat):Int))
  rw[if_neg e,Nat.add_zero]
theorem wrap_small{c:Int}(h0:0<=c)(h1:c<=1000000):wrap64 c=c:=by
 have:=Am (n:=c) (by omega)
 unfold wrap64
 first|omega|(simp;omega)
theorem Cnts.next{D:DataW Unit}{g:Nat->Int}{k:Nat}(h:Cnts D g k){x c:Int}(hx:x=g k)(hat:D.atKey (.int .i64 x) (.lit (.int .i64 0))=.lit (.int .i64 c))(hk:k<1000000):Cnts (D.put (.int .i64 x) (.lit (.int .i64 (wrap64 (c+1))))) g (k+1):=by
 subst hx
 have e:=h.num hat
 have:=zm6 g (g k) k
 exact h.step (wrap_small (by omega) (by omega)) e
theorem vi(x:Int)(w:World):Calls prog 49 #[.int .i64 x] w fun e w'=>e=.returned (.bool (decide (33<=x/\x<=96)))/\w'=w:=by
 go_enter func49,ntmps49
 go_wp2
 all_goals go_ret
 all_goals exact⟨by simp;omega,rfl⟩
theorem zan(x:Int)(w:World):Calls prog 170 #[.int .i64 x] w fun e w'=>e=.returned (.bool (decide (1<=x/\x<32)))/\w'=w:=by
 go_enter func170,ntmps170
 go_wp2
 all_goals go_ret
 all_goals exact⟨by simp;try omega,rfl⟩
end Go.Proofs.YtpiohehijkpghacGreatDoor.Re
namespace Go.Proofs.YtpiohehijkpghacGreatDoor.Re
open Go.RowKit Go.Maps
open Re.Hy
theorem zk{w:World}{b:Nat}{o:Obj}(h:w.heap[b]?=some o):b<w.heap.size:=(Ah.1 h).1
theorem law3:Keyed prog 3:=int_keyed underlying3
theorem ziT(w:World):(zeroValue 3).run prog w=.ok (.int .i64 0) w:=by kernel_rfl
theorem zbI(T:Array Value)(P:Int)(r f:Nat->Int)(a:Option Addr)(n c:Nat)(hT:Hid (T=mcs P r (.slice a n c)))(hF:T[33]?=some (.slice a n c))(hR:Hid (∀k,k<32->(Lit.int .i64 (r k)).wf=true))(hn:n<=64)(w:World)(hL:Hid (Lie w a n c f)):
  Calls prog 148 #[.agg T] w fun e w'=>∃B D,e=.returned (.map (some B))/\w'.ownsMap prog 3 (plainElem (H:=Unit) prog 3) B (32+n) D/\Cnts D (jn r f) (32+n)/\Below w.heap.size w w':=by
 have hmm:∀(x:Int) (w:World),(Instr.makeMap 231 (some (.int .i64 x))).run prog w=.ok (.map (some w.heap.size)) (w.alloc (.map #[] 0)):=fun x w=>by
  simp only[Instr.makeMap,AE,run_underlying underlying231,Au]
  rfl
 go_enter func148,ntmps148
 go_wp2
 have hB0:Below w.heap.size w ((w.alloc (Obj.cells T 59)).alloc (Obj.map #[] 0)):=((Ab _ _).alloc (Aa _) _).alloc (by simp) _
 go_loopw [12] (fun i wr=>∃k:Nat,k<=32/\i=.int .i64 k/\∃D,wr.ownsMap prog 3 (plainElem (H:=Unit) prog 3) (w.heap.size+1) k D/\Cnts D (jn r f) k/\wr.heap[w.heap.size]?=some (.cells T 59 (0,0))/\Below w.heap.size w wr)
  (fun i _=>32-(intOf i).toNat)
 case atStart=>exact⟨0,by omega,rfl,_,by simpa using World.ownsMap_made (w.alloc (Obj.cells T 59)) _ _ _,zgz _,heap_alloc2_old _ _ _,hB0⟩
 case round=>
  obtain⟨k,hk,rfl,D,hown,hcn,hrow,hnx⟩:=hrel
  by_cases hlt:k<32
  ·have hcx:wr.cell? ⟨w.heap.size,1+k,none⟩=some (.int .i64 (r k)):=(Ad wr w.heap.size _ _ _ _ hrow).trans (by rw[hT.out];exact ze0 _ _ _ _ hlt)
   have hkey:keyOf prog 3 (.int .i64 (r k))=some (.int .i64 (r k)):=keyOf_int_mk underlying3 (hR.out k hlt)
   have HO:Hid (Below w.heap.size w wr):=hnx
   have HR0:Hid (wr.heap[w.heap.size]?=some (.cells T 59 (0,0))):=hrow
   clear hnx hrow
   go_wp2_with(first
    |(at_lookup;refine wpList_lookup_own_int _ rfl _ _ 231 rfl 3 3 .i64 law3 underlying231 underlying3 (ziT _) (w.heap.size+1) k _ rfl hown _ _ rfl hkey ?_;intro c hat hwc)
    |(at_mapUpdate;refine wpList_mapUpdate_own _ rfl _ _ _ 231 rfl 3 3 law3 underlying231 _ (w.heap.size+1) k _ rfl hown (by unfold maxLen;omega) _ _ _ rfl rfl hkey _ [] (plainElem_int underlying3 (wrap64_wf _)) ?_;intro w1 hown1 hgrow1)
    |go_in)
   go_roundw
   case rel=>exact⟨k+1,by omega,by go_num,_,hown1,hcn.next (jn_r hlt).symm hat (by omega),(hgrow1.block _ (zk HR0.out) (by simp)).trans HR0.out,HO.out.grown hgrow1 HO.out.size (fun j hj=>by cases hj;omega)⟩
   case measure=>simp[intOf];omega
  ·have:k=32:=by omega
   subst this
   rw[show((32:Nat):Int)=32 from rfl]
   have hcF:wr.cell? ⟨w.heap.size,33,none⟩=some (.slice a n c):=(Ad wr w.heap.size _ _ _ _ hrow).trans hF
   go_wp2
   have HO:Hid (Below w.heap.size w wr):=hnx
   clear hnx hrow hcF
   go_loopw [26] (fun i wr=>∃k:Nat,k<=n/\i=.int .i64 k/\∃D,wr.ownsMap prog 3 (plainElem (H:=Unit) prog 3) (w.heap.size+1) (32+k) D/\Cnts D (jn r f) (32+k)/\Below w.heap.size w wr)
    (fun i _=>n-(intOf i).toNat)
   case atStart=>exact⟨0,by omega,rfl,_,hown,hcn,HO.out⟩
   case round=>
    obtain⟨k,hk,rfl,D,hown,hcn,hnx⟩:=hrel
    by_cases hlt:k<n
    ·obtain⟨b,o,rfl,hb,hc⟩:=hL.out.sure (by omega)
     have hcx:wr.cell? ⟨b,o+k,none⟩=some (.int .i64 (f k)):=(hnx.cell (p:=⟨b,o+k,none⟩) hb).trans (hc k hlt)
     have hkey:keyOf prog 3 (.int .i64 (f k))=some (.int .i64 (f k)):=keyOf_int_mk underlying3 (hL.out.wf k hlt)
     have HO:Hid (Below w.heap.size w wr):=hnx
     clear hnx hc
     go_wp2_with(first
      |(at_lookup;refine wpList_lookup_own_int _ rfl _ _ 231 rfl 3 3 .i64 law3 underlying231 underlying3 (ziT _) (w.heap.size+1) (32+k) _ rfl hown _ _ rfl hkey ?_;intro c hat hwc)
      |(at_mapUpdate;refine wpList_mapUpdate_own _ rfl _ _ _ 231 rfl 3 3 law3 underlying231 _ (w.heap.size+1) (32+k) _ rfl hown (by unfold maxLen;omega) _ _ _ rfl rfl hkey _ [] (plainElem_int underlying3 (wrap64_wf _)) ?_;intro w1 hown1 hgrow1)
      |go_in)
     go_roundw
     case rel=>exact⟨k+1,by omega,by go_num,_,hown1,hcn.next (jn_f k).symm hat (by omega),HO.out.grown hgrow1 HO.out.size (fun j hj=>by cases hj;omega)⟩
     case measure=>simp[intOf];omega
    ·have:k=n:=by omega
     subst this
     go_wp2
     go_ret
     exact⟨_,_,rfl,hown,hcn,hnx⟩
abbrev Rg(r:Nat->Int):Prop:=∀k,k<32->(Lit.int .i64 (r k)).wf=true
theorem zo{P:Program}{ops:Array Oper}{rest:List Oper}{o:Oper}{a:Act}{w:World}{Q:Exit->Act->World->Prop}(hw:AA o (yielded ops a.tmps)=true)(ty:TypeId)(x:Operand)(ho:o.op=.load ty x)
  (g:Nat) (hx:a.eval x=.pointer (some ⟨g,0,none⟩)) (t:TypeId) (cs:Array Value) (fr:Nat×Nat) (d:TypeDesc) (hg:w.heap[g]?=some (.cells cs t fr))
  (hu:P.underlying ty=some d) (hd:(match d with|.struct _|.array _ _=>true|_=>false)=true) (hi:(P.info? ty).map (·.size)=some cs.size)
  (h:wpList P ops Q rest (a.put o.dst (.agg cs)) w):wpList P ops Q (o::rest) a w:=by
 unfold wpList
 rw[if_pos hw]
 exact Or.inl (wp_load_row ty x ho g hx t cs fr d hg hu hd hi h)
theorem vj{H:Type}{P:Program}(w:World){ops:Array Oper}{rest:List Oper}{o:Oper}{a:Act}{Q:Exit->Act->World->Prop}
  (hg:AA o (yielded ops a.tmps)=true) (m x:Operand) (t:TypeId) (hop:o.op=Op.lookup t m x false)
  (k e:TypeId) (q:IntKind) (K:Keyed P k) (ht:P.underlying t=some (.map k e)) (he:P.underlying e=some (.int q)) (hz:(zeroValue e).run P w=.ok (.int q 0) w) (b n:Nat) (D:DataW H)
  (hm:a.eval m=.map (some b)) (hown:w.ownsMap P k (plainElem P e) b n D) (key:Value) (kl:Lit) (hx:a.eval x=key) (hkey:keyOf P k key=some kl)
  (hK:∀c:Int,D.atKey kl (.lit (.int q 0))=.lit (.int q c)->(Lit.int q c).wf=true->wpList P ops Q rest (a.put o.dst (.int q c)) w):
  wpList P ops Q (o::rest) a w:=by
 unfold wpList
 rw[if_pos hg]
 left
 obtain⟨c,hrun,hat,hwc⟩:=hown.lookup_int K ht he hz hkey
 unfold Oper.wp
 simp[execOp,hop,hm,hx,hrun,Result.andThen]
 exact hK c hat hwc
theorem size_map:(prog.info? 59).map (·.size)=some 34:=by kernel_rfl
theorem qD{T:Array Value}{P:Int}{r:Nat->Int}{v:Value}(h:T=mcs P r v):(prog.info? 59).map (·.size)=some T.size:=by rw[size_map,h];rfl
theorem heap_alloc_new(w:World)(o:Obj):(w.alloc o).heap[w.heap.size]?=some o:=by
 show(w.heap.push o)[w.heap.size]?=some o
 simp
theorem zaR(T:Array Value)(P:Int)(r f:Nat->Int)(a:Option Addr)(n c:Nat)(b:Bool)(hT:Hid (T=mcs P r (.slice a n c)))(hb:Hid (b=true↔MayBe P n r f))
  (h0:T[0]?=some (.int .i64 P)) (hF:T[33]?=some (.slice a n c)) (hR:Hid (Rg r)) (hn:n<=140737488355328) (w:World) (hL:Hid (Lie w a n c f)):
  Calls prog 113 #[.agg T] w fun e w'=>e=.returned (.bool b)/\Below w.heap.size w w':=by
 have C1:=vi P
 by_cases hp:33<=P/\P<=96
 ·rw[decide_eq_true hp]at C1
  by_cases hm:(32+n:Int)<=P
  ·have C2:=fun w=>zbI T P r f a n c hT hF hR (by omega) w
   have HI:Hid ((prog.info? 59).map (·.size)=some T.size):=qD hT.out
   go_enter func113,ntmps113
   go_upto_region 1 with fail
   generalize hW:w.alloc (Obj.cells T 59)=W
   have HR0:Hid (W.heap[w.heap.size]?=some (.cells T 59 (0,0))):=by rw[<-hW];show _=_;exact heap_alloc_new _ _
   have HB0:Hid (Below w.heap.size w W):=by rw[<-hW];exact(Ab _ _).alloc (Aa _) _
   have c0:W.cell? ⟨w.heap.size,0,none⟩=some (.int .i64 P):=(Ad W w.heap.size _ _ _ _ HR0.out).trans h0
   have c33:W.cell? ⟨w.heap.size,33,none⟩=some (.slice a n c):=(Ad W w.heap.size _ _ _ _ HR0.out).trans hF
   clear hW
   go_wp2_with fail
   refine(C1 _).mono ?_
   rintro e w' ⟨rfl,rfl⟩
   go_wp2_with(refine wpList_load_row rfl 59 _ rfl _ rfl 59 _ (0,0) _ HR0.out underlying59 rfl HI.out ?_)
   refine(C2 _ (hL.out.below (Aa _) HB0.out)).mono ?_
   rintro e W1 ⟨B,D,rfl,hown,hcn,hk⟩
   have c0':W1.cell? ⟨w.heap.size,0,none⟩=some (.int .i64 P):=(hk.cell (p:=⟨w.heap.size,0,none⟩) (zk HR0.out)).trans c0
   have HB1:Hid (Below w.heap.size w W1):=HB0.out.trans (hk.mono HB0.out.size)
   clear hk HR0 HB0 c0 c33
   go_wp2_with fail
   have hfin:(32+(n:Int)-(sm (o1 (jn r f) (32+n)) P.toNat:Nat)=0)↔b=true:=by
    rw[hb.out]
    constructor
    ·intro h
     exact⟨hp.1,hp.2,(zaQ _ _ _).1 ⟨by omega,by omega⟩⟩
    ·intro h
     have:=((zaQ _ _ _).2 h.all).2
     omega
   go_loopw [3,24] (fun v i wr=>∃k:Nat,∃m:Int,k<=P.toNat/\i=.int .i64 k/\v=.int .i64 m/\m=32+(n:Int)-(sm (o1 (jn r f) (32+n)) k:Nat)/\wr=W1)
    (fun _ i _=>P.toNat-(intOf i).toNat)
   case atStart=>exact⟨0,_,by omega,rfl,rfl,by simp[sm],rfl⟩
   case round=>
    obtain⟨k,m,hk,rfl,rfl,hm,rfl⟩:=hrel
    have hs:sm (o1 (jn r f) (32+n)) k<=k:=zgw k (fun i hi=>(show o1 (jn r f) (32+n) i<=1 by unfold o1;split<;>omega))
    have m0:-100<=m:=by omega
    have m1:m<=1000:=by omega
    by_cases hlt:k<P.toNat
    ·have hlt':(k:Int)<P:=by omega
     have hkey:keyOf prog 3 (.int .i64 (k:Int))=some (.int .i64 (k:Int)):=keyOf_int_mk underlying3 (Am (by omega))
     have hstep:sm (o1 (jn r f) (32+n)) (k+1)=sm (o1 (jn r f) (32+n)) k+o1 (jn r f) (32+n) k:=rfl
     go_wp2_with(at_lookup;refine wpList_lookup_own_int _ rfl _ _ 231 rfl 3 3 .i64 law3 underlying231 underlying3 (ziT _) B (32+n) _ rfl hown _ _ rfl hkey ?_;intro q hat hwc)
     all_goals have hq:=hcn.num hat
     all_goals have ho:(cn (jn r f) (k:Int) (32+n)=1/\o1 (jn r f) (32+n) k=1)\/(cn (jn r f) (k:Int) (32+n)≠1/\o1 (jn r f) (32+n) k=0):=by unfold o1;split<;>simp_all
     all_goals refine⟨⟨k+1,_,by omega,by go_num,rfl,?_,trivial⟩,by simp[intOf];omega⟩
     all_goals rw[hstep]
     all_goals first|(have h1:q=1:=by simpa using(by assumption:(q==1)=true))|(have h1:q≠1:=by simpa using(by assumption:(q==1)=false))
     all_goals omega
    ·have:k=P.toNat:=by omega
     subst this
     have hlt':¬(((P.toNat:Nat):Int)<P):=by omega
     go_wp2
     go_ret
     refine⟨congrArg (fun x=>Ay (Value.bool x)) (?_:_=b),HB1.out⟩
     rw[Bool.eq_iff_iff,<-hfin]
     simp
  ·have hbf:b=false:=by
    cases b
    ·rfl
    ·have:=(hb.out.1 rfl).few;omega
   subst hbf
   go_enter func113,ntmps113
   go_wp2_with fail
   refine(C1 _).mono ?_
   rintro e w' ⟨rfl,rfl⟩
   go_wp2_with fail
   go_ret
   exact⟨rfl,by first|exact Ab _ _|exact(Ab _ _).alloc (Aa _) _⟩
 ·have hbf:b=false:=by
   cases b
   ·rfl
   ·have:=hb.out.1 rfl
    exact absurd ⟨this.low,this.high⟩ hp
  subst hbf
  rw[decide_eq_false hp]at C1
  go_enter func113,ntmps113
  go_wp2_with fail
  refine(C1 _).mono ?_
  rintro e w' ⟨rfl,rfl⟩
  go_wp2_with fail
  go_ret
  exact⟨rfl,by first|exact Ab _ _|exact(Ab _ _).alloc (Aa _) _⟩
theorem zbJ(T:Array Value)(P:Int)(r f:Nat->Int)(a:Option Addr)(n c:Nat)(x:Int)(b:Bool)(hT:Hid (T=mcs P r (.slice a n c)))(hb:Hid (b=true↔Idle P n r f x))
  (h0:T[0]?=some (.int .i64 P)) (hF:T[33]?=some (.slice a n c)) (hR:Hid (Rg r)) (hn:n<=64) (hP:P<=96) (w:World) (hL:Hid (Lie w a n c f)):
  Calls prog 114 #[.agg T,.int .i64 x] w fun e w'=>e=.returned (.bool b)/\Below w.heap.size w w':=by
 have C2:=fun w=>zbI T P r f a n c hT hF hR hn w
 have HI:Hid ((prog.info? 59).map (·.size)=some T.size):=qD hT.out
 by_cases hp:0<=x/\x<P
 ·obtain⟨x0,x1⟩:=hp
  go_enter func114,ntmps114
  go_upto_region 1 with fail
  generalize hW:w.alloc (Obj.cells T 59)=W
  have HR0:Hid (W.heap[w.heap.size]?=some (.cells T 59 (0,0))):=by rw[<-hW];show _=_;exact heap_alloc_new _ _
  have HB0:Hid (Below w.heap.size w W):=by rw[<-hW];exact(Ab _ _).alloc (Aa _) _
  have c0:W.cell? ⟨w.heap.size,0,none⟩=some (.int .i64 P):=(Ad W w.heap.size _ _ _ _ HR0.out).trans h0
  have c33:W.cell? ⟨w.heap.size,33,none⟩=some (.slice a n c):=(Ad W w.heap.size _ _ _ _ HR0.out).trans hF
  clear hW
  go_wp2_with(refine zo (by rfl) 59 _ rfl _ rfl 59 _ (0,0) _ HR0.out underlying59 rfl HI.out ?_)
  refine(C2 _ (hL.out.below (Aa _) HB0.out)).mono ?_
  rintro e W1 ⟨B,D,rfl,hown,hcn,hk⟩
  have HB1:Hid (Below w.heap.size w W1):=HB0.out.trans (hk.mono HB0.out.size)
  clear hk HR0 HB0 c0 c33
  have hkey:keyOf prog 3 (.int .i64 x)=some (.int .i64 x):=keyOf_int_mk underlying3 (Am (by omega))
  go_wp2_with(at_lookup;refine vj _ (by rfl) _ _ 231 rfl 3 3 .i64 law3 underlying231 underlying3 (ziT _) B (32+n) _ rfl hown _ _ rfl hkey ?_;intro q hat hwc)
  have hq:=hcn.num hat
  go_ret
  refine⟨congrArg (fun x=>Ay (Value.bool x)) (?_:_=b),HB1.out⟩
  rw[Bool.eq_iff_iff,hb.out]
  constructor
  ·intro h
   exact⟨x0,x1,by simp at h;omega⟩
  ·intro h
   have:=h.no
   simp;omega
 ·have hbf:b=false:=by
   cases b
   ·rfl
   ·have:=hb.out.1 rfl
    exact absurd ⟨this.lo,this.hi⟩ hp
  subst hbf
  by_cases x0:0<=x
  ·have x1:decide (x<P)=false:=by simp;omega
   go_enter func114,ntmps114
   go_upto_region 1 with fail
   generalize hW:w.alloc (Obj.cells T 59)=W
   have HR0:Hid (W.heap[w.heap.size]?=some (.cells T 59 (0,0))):=by rw[<-hW];show _=_;exact heap_alloc_new _ _
   have HB0:Hid (Below w.heap.size w W):=by rw[<-hW];exact(Ab _ _).alloc (Aa _) _
   have c0:W.cell? ⟨w.heap.size,0,none⟩=some (.int .i64 P):=(Ad W w.heap.size _ _ _ _ HR0.out).trans h0
   clear hW
   go_wp2_with(refine wpList_skip (by rfl) ?_)
   go_ret
   exact⟨rfl,HB0.out⟩
  ·go_enter func114,ntmps114
   go_upto_region 1 with fail
   generalize hW:w.alloc (Obj.cells T 59)=W
   have HR0:Hid (W.heap[w.heap.size]?=some (.cells T 59 (0,0))):=by rw[<-hW];show _=_;exact heap_alloc_new _ _
   have HB0:Hid (Below w.heap.size w W):=by rw[<-hW];exact(Ab _ _).alloc (Aa _) _
   have c0:W.cell? ⟨w.heap.size,0,none⟩=some (.int .i64 P):=(Ad W w.heap.size _ _ _ _ HR0.out).trans h0
   clear hW
   go_wp2_with(refine wpList_skip (by rfl) ?_)
   go_ret
   exact⟨rfl,HB0.out⟩
theorem ziU:(prog.info? 3).map (fun i=>(i.zero,i.size,i.bytes))=some (some (.int .i64 0),1,8):=by kernel_rfl
theorem vk(b o n c:Nat)(f:Nat->Int)(hn:n<=1000)(w:World)(hL:Hid (Lie w (some ⟨b,o,none⟩) n c f)):
  Calls prog 171 #[.slice (some ⟨b,o,none⟩) n c] w fun e w'=>(∃a' c',e=.returned (.slice a' n c')/\Lie w' a' n c' f/\Far w.heap.size a')/\Below w.heap.size w w':=by
 obtain⟨i0,hi,hz0,hz1,hz2⟩:=Ar ziU
 have q22:∀(w:World) (a:Option Addr) (n c n' c':Nat),(binOp .eql 29 (.slice a n c) (.slice none n' c')).run prog w=.ok (.bool a.isNone) w:=fun w a n c n' c'=>An w _ _ a n c n' c' underlying29
 go_enter func171,ntmps171
 go_wp2_with(at_builtin;refine qp _ rfl _ _ 29 rfl w.heap.size 3 i0 underlying29 hi hz0 hz1 hz2 _ 0 f rfl (Ai w #[] 0 (Aa _) (Aw _) rfl) _ n c f rfl (hL.out.below (Aa _) ((Ab _ _).alloc (Aa _) _)) (by omega) (by simp) ?_)
 intro v' w1 hown hgrow
 go_wp2
 go_ret
 have hown':w1.ownsRow w.heap.size 3 1 v' n (row f n):=by
  rw[vh (f':=cat f 0 f) (fun i _=>by simp[cat]),<-At n]
  simpa using hown
 obtain⟨a',c',rfl,a3⟩:=kM hown' hL.out.wf
 exact⟨⟨a',c',rfl,a3⟩,((Ab _ w).alloc (Aa _) _).grown hgrow (by simp) (by intro k hk;simp[Az]at hk;omega)⟩
theorem zgA(N:Nat)(h0:0<N)(hN:N<=1000)(w:World)(f:Nat->Int):
  Calls prog 149 #[.slice none 0 0,.int .i64 N] w fun e w'=>(∃v',e=.returned v'/\w'.ownsRow w.heap.size 3 1 v' 0 (row f 0))/\Below w.heap.size w w':=by
 obtain⟨i0,hi,hz0,hz1,hz2⟩:=Ar ziU
 go_enter func149,ntmps149
 go_wp2
 all_goals have e8:t3.bytes=8:=rfl
 all_goals have e9:Builtin.nextslicecap N 0*t3.bytes<=281474976710656:=growslice_fits h0 (by rw[e8];omega)
 all_goals try(exfalso;first|omega|(simp only[e8]at*;omega))
 go_ret
 have hge:=grownCap_ge w N 0 3
 have hle:=grownCap_le_maxLen w N 0 3 (by unfold maxLen;omega)
 refine⟨⟨_,rfl,Ai w _ _ (Aa _) hle ?_⟩,(((Ab _ _).alloc (Aa _) _).drew)⟩
 simp only[Array.size_append,size_zeroCells]
 show N*1+(grownCap w N 0 3-N)*1=grownCap w N 0 3*1
 omega
theorem vl(q:Nat)(a1 a2:Option Addr)(n1 c1 n2 c2:Nat)(f1 f2:Nat->Int)(h0:0<n1+n2)(hn:n1+n2<=1000)(w:World)
  (hq:q<w.heap.size) (k0:w.cell? ⟨q,0,none⟩=some (.slice a1 n1 c1)) (k1:w.cell? ⟨q,1,none⟩=some (.slice a2 n2 c2)) (hL1:Hid (Lie w a1 n1 c1 f1)) (hL2:Hid (Lie w a2 n2 c2 f2)):
  Calls prog 115 #[.slice (some ⟨q,0,none⟩) 2 2] w fun e w'=>(∃a' c',e=.returned (.slice a' (n1+n2) c')/\Lie w' a' (n1+n2) c' (cat f1 n1 f2)/\Far w.heap.size a')/\Below w.heap.size w w':=by
 obtain⟨i0,hi,hz0,hz1,hz2⟩:=Ar ziU
 have C:=fun w=>zgA (n1+n2) h0 hn w f1
 simp only[Int.natCast_add]at C
 go_enter func115,ntmps115
 go_wp2_with fail
 refine wp_loop_rounds 3 ?_
 rw[Ag]
 go_wp2_with fail
 rw[Ag]
 go_wp2_with fail
 rw[Ag]
 go_wp2_with fail
 refine(C _).mono ?_
 rintro e W1 ⟨⟨v,rfl,hown⟩,hk⟩
 have j0:W1.cell? ⟨q,0,none⟩=some (.slice a1 n1 c1):=(hk.cell (p:=⟨q,0,none⟩) hq).trans k0
 have j1:W1.cell? ⟨q,1,none⟩=some (.slice a2 n2 c2):=(hk.cell (p:=⟨q,1,none⟩) hq).trans k1
 have HO:Hid (W1.ownsRow w.heap.size 3 1 v 0 (row f1 0)):=hown
 have HK:Hid (Below w.heap.size w W1):=hk
 clear hown hk k0 k1 C
 go_wp2_with fail
 refine wp_loop_rounds 3 ?_
 rw[Ag]
 go_wp2_with(at_builtin;refine qp _ rfl _ _ 29 rfl w.heap.size 3 i0 underlying29 hi hz0 hz1 hz2 _ 0 f1 rfl HO.out _ n1 c1 f1 rfl (hL1.out.below (Aa _) HK.out) (by omega) HK.out.size ?_;intro v1 w1 hown1 hgrow1)
 have m1:w1.cell? ⟨q,1,none⟩=some (.slice a2 n2 c2):=hgrow1.cell j1 (by intro e;have h:w.heap.size<=q:=(HO.out.lt _ e.symm).1;omega)
 have HO1:Hid (w1.ownsRow w.heap.size 3 1 v1 n1 (row f1 n1)):=by
  show w1.ownsRow _ _ _ _ _ _
  rw[vh (f':=cat f1 0 f1) (fun i _=>by simp[cat]),<-At n1]
  simpa using hown1
 have HK1:Hid (Below w.heap.size w w1):=HK.out.grown hgrow1 HK.out.size (fun k hk=>(HO.out.lt k hk).1)
 clear hown1 hgrow1 HO HK j0 j1
 rw[Ag]
 go_wp2_with(at_builtin;refine qp _ rfl _ _ 29 rfl w.heap.size 3 i0 underlying29 hi hz0 hz1 hz2 _ n1 f1 rfl HO1.out _ n2 c2 f2 rfl (hL2.out.below (Aa _) HK1.out) (by omega) HK1.out.size ?_;intro v2 w2 hown2 hgrow2)
 have HK2:Hid (Below w.heap.size w w2):=HK1.out.grown hgrow2 HK1.out.size (fun k hk=>(HO1.out.lt k hk).1)
 have HO2:Hid (w2.ownsRow w.heap.size 3 1 v2 (n1+n2) (row (cat f1 n1 f2) (n1+n2))):=hown2
 clear hown2 hgrow2
 rw[Ag]
 go_wp2_with fail
 go_ret
 obtain⟨a',c',rfl,a3⟩:=kM HO2.out (fun i hi=>by
  unfold cat
  split
  ·exact hL1.out.wf i (by omega)
  ·exact hL2.out.wf _ (by omega))
 exact⟨⟨a',c',rfl,a3⟩,HK2.out⟩
end Go.Proofs.YtpiohehijkpghacGreatDoor.Re
