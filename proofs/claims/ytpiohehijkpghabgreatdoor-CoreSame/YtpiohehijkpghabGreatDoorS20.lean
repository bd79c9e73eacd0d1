/- Whether two have a byte in common; closures that ask. -/
import Derived.Test.YtpiohehijkpghabGreatDoorChecked
import Derived.ProofKit
import Derived.Below
import Derived.Deep.MidRow
import Derived.Deep.WholeRow
import Derived.Laws.Rows
import Derived.Laws.Tables
import Derived.Deep.QuietTactic
import Derived.BigQuiet
import Derived.Deep.Cut
import Derived.Deep.RegionWith
import Derived.Deep.RegionHeld
import Derived.Shelf.Abstract
import Derived.Lib.SliceRun
import Derived.Test.YtpiohehijkpghabGreatDoorS01
import Derived.Test.YtpiohehijkpghabGreatDoorS03
import Derived.Test.YtpiohehijkpghabGreatDoorS18
set_option maxRecDepth 20000
set_option maxHeartbeats 1000000
set_option linter.unusedSimpArgs false
set_option linter.unusedVariables false
open Go.Proofs.Tryz
namespace Go.Proofs.YtpiohehijkpghabGreatDoor.Od
open Go.Proofs.YtpiohehijkpghabGreatDoor.Wi
open Go.RowKit
open Hy
structure Ac where
 seq:Int
 st:Bool
 kn:Bool
 pl:Int
 many:Int
 data:Int
 done:Bool
structure Ac.Ok(a:Ac):Prop where
 p0:0<=a.pl
 p1:a.pl<=4294967295
 d0:0<=a.data
 d1:a.data<=4294967295
 m0:-9223372036854775808<=a.many
 m1:a.many<=9223372036854775807
def cel(p:Ac):List Value:=[.int .i64 p.seq,.bool p.st,.bool p.kn,.int .u32 p.pl,.int .i64 p.many,.int .u32 p.data,.bool p.done]
abbrev acv(p:Ac):Value:=.agg #[.int .i64 p.seq,.bool p.st,.bool p.kn,.int .u32 p.pl,.int .i64 p.many,.int .u32 p.data,.bool p.done]
def acs:List Ac->List Value
 |[]=>[]
 |p::l=>cel p++acs l
theorem vb:∀l:List Ac,(acs l).length=l.length*7
 |[]=>rfl
 |p::l=>by have:=vb l;simp[acs,cel,this];omega
theorem yr:∀(l:List Ac) (k j:Nat) (p:Ac) (u:Value),l[k]?=some p->(cel p)[j]?=some u->(acs l)[k*7+j]?=some u
 |[],k,j,p,u,h,hu=>by simp at h
 |q::l,0,j,p,u,h,hu=>by
  simp at h;subst h
  have hj:j<(cel q).length:=(List.getElem?_eq_some_iff.1 hu).1
  rw[acs,Nat.zero_mul,Nat.zero_add,List.getElem?_append_left hj]
  exact hu
 |q::l,k+1,j,p,u,h,hu=>by
  have:=yr l k j p u (by simpa using h) hu
  rw[acs,List.getElem?_append_right (by simp[cel];omega)]
  rw[show(k+1)*7+j-(cel q).length=k*7+j by simp[cel];omega]
  exact this
theorem jW(p:Ac):∀u∈cel p,u.oneCell'=true:=by
 intro u hu
 simp only[cel,List.mem_cons,List.not_mem_nil,or_false]at hu
 rcases hu with rfl|rfl|rfl|rfl|rfl|rfl|rfl<;>rfl
def wd(a:Ac):Int:=if a.many<0 then 0 else if 4<a.many then 4 else a.many
theorem zef(a:Ac):0<=wd a/\wd a<=4:=by unfold wd;split<;>(try split)<;>omega
def hs(a:Ac)(x:Int):Bool:=decide (a.pl<=x/\x<a.pl+wd a)
def ahd(seq:Int)(a:Ac):Bool:=a.st&&decide (a.seq<seq)
def unk(seq:Int)(a:Ac):Bool:=ahd seq a&&!a.kn
def sto1(seq:Int)(a:Ac):Bool:=a.st&&a.kn&&decide (a.seq=seq)
def ovr(seq:Int)(a:Ac):Bool:=!a.st&&a.done&&a.kn&&decide (seq<a.seq)
def gv(seq x:Int)(a:Ac):Bool:=ahd seq a&&a.kn&&hs a x
def mt(s a:Ac):Bool:=decide (s.pl<a.pl+wd a/\a.pl<s.pl+wd s/\0<wd s/\0<wd a)
def aft(l:List Ac)(o:Option Nat)(a:Ac):Bool:=match o with
 |none=>true
 |some j=>match l[j]? with
  |none=>true
  |some q=>decide (q.seq<=a.seq)
def bst(l:List Ac)(seq x:Int):Nat->Option Nat
 |0=>none
 |k+1=>match l[k]? with
  |none=>bst l seq x k
  |some a=>if(gv seq x a&&aft l (bst l seq x k) a)=true then some k else bst l seq x k
theorem kp(l:List Ac)(seq x:Int):∀k j,bst l seq x k=some j->j<k/\∃q,l[j]?=some q/\gv seq x q=true
 |0,j,h=>by simp[bst]at h
 |k+1,j,h=>by
  unfold bst at h
  split at h
  ·obtain⟨h1,h2⟩:=kp l seq x k j h
   exact⟨by omega,h2⟩
  ·rename_i a ha
   split at h
   ·rename_i hc
    cases h
    simp at hc
    exact⟨by omega,a,ha,hc.1⟩
   ·obtain⟨h1,h2⟩:=kp l seq x k j h
    exact⟨by omega,h2⟩
theorem zhc{l:List Ac}{seq x:Int}{k:Nat}{a:Ac}(ha:l[k]?=some a)(h:gv seq x a=false):bst l seq x (k+1)=bst l seq x k:=by
 rw[bst,ha]
 simp[h]
theorem zhd{l:List Ac}{seq x:Int}{k:Nat}{a:Ac}(ha:l[k]?=some a)(h:gv seq x a=true)(hn:bst l seq x k=none):bst l seq x (k+1)=some k:=by
 rw[bst,ha]
 simp[h,hn,aft]
theorem zjs{l:List Ac}{seq x:Int}{k j:Nat}{a q:Ac}(ha:l[k]?=some a)(h:gv seq x a=true)(hj:bst l seq x k=some j)(hq:l[j]?=some q)(hle:q.seq<=a.seq):bst l seq x (k+1)=some k:=by
 rw[bst,ha]
 simp[h,hj,aft,hq,hle]
theorem zjt{l:List Ac}{seq x:Int}{k j:Nat}{a q:Ac}(ha:l[k]?=some a)(hj:bst l seq x k=some j)(hq:l[j]?=some q)(hle:a.seq<q.seq):bst l seq x (k+1)=bst l seq x k:=by
 rw[bst,ha]
 have:¬q.seq<=a.seq:=by omega
 simp[hj,aft,hq,this]
def byt(a:Ac)(x:Int):Int:=a.data/two (8*(x-a.pl).toNat)%256
theorem zlG(a:Ac)(x:Int):0<=byt a x/\byt a x<=255:=by unfold byt;omega
def seen(l:List Ac)(seq x m:Int)(k:Nat):Int:=match bst l seq x k with
 |none=>m
 |some j=>match l[j]? with
  |none=>m
  |some q=>byt q x
theorem zeg(l:List Ac)(seq x m:Int)(k:Nat)(h:0<=m/\m<=255):0<=seen l seq x m k/\seen l seq x m k<=255:=by
 unfold seen
 split
 ·exact h
 ·split
  ·exact h
  ·exact zlG _ _
theorem seen_none{l:List Ac}{seq x m:Int}{k:Nat}(h:bst l seq x k=none):seen l seq x m k=m:=by unfold seen;rw[h]
theorem kq{l:List Ac}{seq x m:Int}{k j:Nat}{q:Ac}(h:bst l seq x k=some j)(hq:l[j]?=some q):seen l seq x m k=byt q x:=by unfold seen;rw[h];simp only[hq]
structure FirstA(p:Ac->Bool)(l:List Ac)(m:Nat):Prop where
 le:m<=l.length
 no:∀j q,j<m->l[j]?=some q->p q=false
 yes:∀q,l[m]?=some q->p q=true
theorem kr(p:Ac->Bool):∀l,∃m,FirstA p l m
 |[]=>⟨0,Nat.le_refl _,fun j q h=>absurd h (by omega),fun q h=>by simp at h⟩
 |q::l=>by
  cases hq:p q with
  |true=>exact⟨0,Nat.zero_le _,fun j q h=>absurd h (by omega),fun q' h=>by simp at h;subst h;exact hq⟩
  |false=>
   obtain⟨m,h⟩:=kr p l
   refine⟨m+1,by have:=h.le;simp;omega,fun j q' hj hq'=>?_,fun q' h'=>h.yes q' (by simpa using h')⟩
   cases j with
   |zero=>simp at hq';subst hq';exact hq
   |succ j=>exact h.no j q' (by omega) (by simpa using hq')
theorem zeh{l:List Ac}{k:Nat}(h:k<l.length):∃p,l[k]?=some p:=⟨_,List.getElem?_eq_getElem h⟩
def bef(o:Option Int)(a:Ac):Bool:=match o with
 |none=>true
 |some x=>decide (a.seq<x)
def lst(l:List Ac)(s:Ac):Nat->Option Int
 |0=>none
 |k+1=>match l[k]? with
  |none=>lst l s k
  |some a=>if(ovr s.seq a&&mt s a&&bef (lst l s k) a)=true then some a.seq else lst l s k
theorem zkD{l:List Ac}{s a:Ac}{k:Nat}(ha:l[k]?=some a)(h:(ovr s.seq a&&mt s a)=false):lst l s (k+1)=lst l s k:=by
 rw[lst,ha]
 simp only[h,Bool.false_and]
 rfl
theorem zhe{l:List Ac}{s a:Ac}{k:Nat}(ha:l[k]?=some a)(h:(ovr s.seq a&&mt s a)=true)(hn:lst l s k=none):lst l s (k+1)=some a.seq:=by
 rw[lst,ha]
 simp only[h,hn,bef]
 rfl
theorem zju{l:List Ac}{s a:Ac}{k:Nat}{x:Int}(ha:l[k]?=some a)(h:(ovr s.seq a&&mt s a)=true)(hx:lst l s k=some x)(hlt:a.seq<x):lst l s (k+1)=some a.seq:=by
 rw[lst,ha]
 simp only[h,hx,bef,hlt]
 rfl
theorem zjv{l:List Ac}{s a:Ac}{k:Nat}{x:Int}(ha:l[k]?=some a)(hx:lst l s k=some x)(hle:x<=a.seq):lst l s (k+1)=lst l s k:=by
 rw[lst,ha]
 have:¬a.seq<x:=by omega
 simp[hx,bef,this]
theorem zn4{s a:Ac}{x:Int}(h1:hs s x=true)(h2:hs a x=true):mt s a=true:=by
 simp only[hs,decide_eq_true_eq]at h1 h2
 exact decide_eq_true ⟨by omega,by omega,by omega,by omega⟩
theorem zpR{s a:Ac}(h:mt s a=true):∃x,(x=s.pl\/x=a.pl)/\hs s x=true/\hs a x=true:=by
 simp only[mt,decide_eq_true_eq]at h
 by_cases hle:a.pl<=s.pl
 ·exact⟨s.pl,.inl rfl,decide_eq_true ⟨by omega,by omega⟩,decide_eq_true ⟨by omega,by omega⟩⟩
 ·exact⟨a.pl,.inr rfl,decide_eq_true ⟨by omega,by omega⟩,decide_eq_true ⟨by omega,by omega⟩⟩
def four(f:Nat->Int):Int:=f 0+f 1*256+f 2*65536+f 3*16777216
def upto(m:Nat)(f:Nat->Int):Nat->Int:=fun i=>if i<m then f i else 0
theorem zhf(m:Nat)(hm:m=1\/m=2\/m=4)(f:Nat->Int):le f m=four (upto m f):=by
 rcases hm with rfl|rfl|rfl<;>simp[le,four,upto]
def put1(f:Nat->Int)(n:Nat)(b:Int):Nat->Int:=fun i=>if i=n then b else f i
theorem zjw(k W:Nat)(hk:k<=32)(h:W<4294967296):W&&& ((2^(32-k)-1)<<<k)=2^k*(W/2^k):=by
 apply Nat.eq_of_testBit_eq
 intro j
 rw[Nat.testBit_and,Nat.testBit_shiftLeft,Nat.testBit_two_pow_sub_one,Nat.testBit_two_pow_mul,Nat.testBit_div_two_pow]
 by_cases hj:k<=j
 ·by_cases h32:j<32
  ·simp[hj]
   intro _;omega
  ·have:W.testBit j=false:=Nat.testBit_lt_two_pow (Nat.lt_of_lt_of_le h (by rw[show 4294967296=2^32 by rfl];exact Nat.pow_le_pow_right (by omega) (by omega)))
   rw[show j-k+k=j by omega]
   simp[this]
 ·simp[hj]
theorem ks(i W:Nat)(hi:i=0\/i=8\/i=16\/i=24)(h:W<4294967296):W&&& (4294967295-255*2^i)=W%2^i+2^(i+8)*(W/2^(i+8)):=by
 have e:4294967295-255*2^i=(2^i-1)|||((2^(32-(i+8))-1)<<<(i+8)):=by rcases hi with rfl|rfl|rfl|rfl<;>decide
 rw[e,Nat.and_or_distrib_left,Nat.and_two_pow_sub_one_eq_mod,zjw _ _ (by omega) h,Nat.or_comm]
 rw[nat_join (i+8) _ _ (by simp) (Nat.lt_of_lt_of_le (Nat.mod_lt _ (Nat.two_pow_pos _)) (Nat.pow_le_pow_right (by omega) (by omega)))]
 omega
theorem zlH(i:Nat)(hi:i=0\/i=8\/i=16\/i=24)(P W b:Int)(hP:P=((2^i:Nat):Int))(w0:0<=W)(w1:W<4294967296)(b0:0<=b)(b1:b<=255):
  bits .or .u32 (bits .andNot .u32 W (255*P)) (b*P)=W%P+b*P+256*P*(W/(256*P)):=by
 obtain⟨N,rfl⟩:=Int.eq_ofNat_of_zero_le w0
 have hN:N<4294967296:=by omega
 rcases hi with rfl|rfl|rfl|rfl
 ·obtain rfl:P=1:=hP
  have e1:bits .andNot .u32 (N:Int) (255*1)=(N:Int)%1+256*((N:Int)/256):=by
   have h1:=u32_andNot_nat N 255 hN (by omega)
   have h2:N&&& (4294967295-255)=N%1+256*(N/256):=ks 0 N (by omega) hN
   rw[h2]at h1
   refine h1.trans ?_
   omega
  rw[e1,qk 0 8 (by omega) 1 256 _ _ rfl rfl (by omega) (by omega) (by omega) (by omega) (by omega) (by omega) (by omega)]
  omega
 ·obtain rfl:P=256:=hP
  have e1:bits .andNot .u32 (N:Int) (255*256)=(N:Int)%256+65536*((N:Int)/65536):=by
   have h1:=u32_andNot_nat N 65280 hN (by omega)
   have h2:N&&& (4294967295-65280)=N%256+65536*(N/65536):=ks 8 N (by omega) hN
   rw[h2]at h1
   refine h1.trans ?_
   omega
  rw[e1,qk 8 16 (by omega) 256 65536 _ _ rfl rfl (by omega) (by omega) (by omega) (by omega) (by omega) (by omega) (by omega)]
  omega
 ·obtain rfl:P=65536:=hP
  have e1:bits .andNot .u32 (N:Int) (255*65536)=(N:Int)%65536+16777216*((N:Int)/16777216):=by
   have h1:=u32_andNot_nat N 16711680 hN (by omega)
   have h2:N&&& (4294967295-16711680)=N%65536+16777216*(N/16777216):=ks 16 N (by omega) hN
   rw[h2]at h1
   refine h1.trans ?_
   omega
  rw[e1,qk 16 24 (by omega) 65536 16777216 _ _ rfl rfl (by omega) (by omega) (by omega) (by omega) (by omega) (by omega) (by omega)]
  omega
 ·obtain rfl:P=16777216:=hP
  have e1:bits .andNot .u32 (N:Int) (255*16777216)=(N:Int)%16777216+4294967296*((N:Int)/4294967296):=by
   have h1:=u32_andNot_nat N 4278190080 hN (by omega)
   have h2:N&&& (4294967295-4278190080)=N%16777216+4294967296*(N/4294967296):=ks 24 N (by omega) hN
   rw[h2]at h1
   refine h1.trans ?_
   omega
  rw[e1,qk 24 32 (by omega) 16777216 4294967296 _ _ rfl rfl (by omega) (by omega) (by omega) (by omega) (by omega) (by omega) (by omega)]
  omega
theorem zjx(n:Nat)(f:Nat->Int)(b W P:Int)(hn:n<4)(hP:P=((2^(8*n):Nat):Int))(hf:∀i,0<=f i/\f i<=255)(b0:0<=b)(b1:b<=255)(hW:W=four f):
  bits .or .u32 (bits .andNot .u32 W (255*P)) (b*P)=four (put1 f n b):=by
 have h0:=hf 0
 have h1:=hf 1
 have h2:=hf 2
 have h3:=hf 3
 have w0:0<=W/\W<4294967296:=by subst hW;unfold four;omega
 rw[zlH (8*n) (by omega) P W b hP w0.1 w0.2 b0 b1]
 subst hW
 rcases(by omega:n=0\/n=1\/n=2\/n=3)with rfl|rfl|rfl|rfl
 ·obtain rfl:P=1:=hP
  simp[four,put1];omega
 ·obtain rfl:P=256:=hP
  simp[four,put1];omega
 ·obtain rfl:P=65536:=hP
  simp[four,put1];omega
 ·obtain rfl:P=16777216:=hP
  simp[four,put1];omega
end Go.Proofs.YtpiohehijkpghabGreatDoor.Od
namespace Go.Proofs.YtpiohehijkpghabGreatDoor.Od
open Go.Proofs.YtpiohehijkpghabGreatDoor.Wi
open Go.RowKit
open Hy
def sb(l:List Ac)(seq:Int)(n A:Nat)(f:Nat->Int):Nat->Int:=fun i=>seen l seq ((A:Int)+i) (f (A+i)) n
theorem zce{l:List Ac}{seq:Int}{n A:Nat}{f:Nat->Int}{i:Nat}(h:0<=f (A+i)/\f (A+i)<=255):0<=sb l seq n A f i/\sb l seq n A f i<=255:=zeg _ _ _ _ _ h
def Sure(l:List Ac)(seq:Int)(k:Nat)(U:Bool):Prop:=U=true↔∀(j:Nat) (q:Ac),j<k->l[j]?=some q->unk seq q=false
theorem Sure.eq{l:List Ac}{seq:Int}{n m:Nat}{U:Bool}(h:Sure l seq n U)(hm:FirstA (unk seq) l m)(hl:l.length=n):U=!(decide (m<n)):=by
 unfold Sure at h
 by_cases hlt:m<n
 ·obtain⟨q,hq⟩:=zeh (l:=l) (k:=m) (by omega)
  have:¬U=true:=fun hu=>by have h1:=h.1 hu m q hlt hq;rw[hm.yes q hq]at h1;cases h1
  simp[hlt]
  simpa using this
 ·have:U=true:=h.2 fun j q hj hq=>hm.no j q (by omega) hq
  simp[hlt,this]
def Fit(many:Int)(A ml:Nat):Prop:=(many=1\/many=2\/many=4)/\(A:Int)%many=0/\(A:Int)+many<=ml
end Go.Proofs.YtpiohehijkpghabGreatDoor.Od
namespace Go.Proofs.YtpiohehijkpghabGreatDoor.Od
open Go.Proofs.YtpiohehijkpghabGreatDoor.Wi
open Go.RowKit
open Hy
theorem jb:(prog.info? 100).map (·.size)=some 7:=by kernel_rfl
theorem zr{w:World}{b:Nat}{o:Obj}(h:w.heap[b]?=some o):b<w.heap.size:=(Array.getElem?_eq_some_iff.1 h).1
theorem zh{B:Nat}{a w:World}(h:Below B a w){g:Nat}(hg:B<=g)(cs:Array Value):Below B a (w.setRow g cs):=
 ⟨h.os,h.tape,h.output,by simpa using h.size,fun k hk=>(setRow_other _ _ _ _ (by omega)).trans (h.block k hk)⟩
theorem zA{Φ:World->Prop}{w:World}{A:Obj}(h:∀W:World,W.heap[w.heap.size]?=some A->Below w.heap.size w W->Φ W):Φ (w.alloc A):=
 h _ (heap_alloc_new _ _) ((Below.refl _ _).alloc (Nat.le_refl _) _)
theorem qH{Φ:World->Prop}{w:World}{A B:Obj}(h:∀W:World,W.heap[w.heap.size]?=some A->W.heap[w.heap.size+1]?=some B->Below w.heap.size w W->w.heap.size+2<=W.heap.size->Φ W):Φ ((w.alloc A).alloc B):=
 h _ (heap_alloc2_old _ _ _) (heap_alloc2_new _ _ _) (((Below.refl _ _).alloc (Nat.le_refl _) _).alloc (by simp) _) (by simp)
theorem zc{P:Program}{ops:Array Oper}{S:World->Prop}{op:Oper}{a:Act}(hw:Region.wanted op (yielded ops a.tmps)=true)(ty:TypeId)(x:Operand)(ho:op.op=.load ty x)
  (g:Nat) (hx:a.eval x=.pointer (some ⟨g,0,none⟩)) (t:TypeId) (cs:Array Value) (fr:Nat×Nat) (d:TypeDesc) (hS:∀w,S w->w.heap[g]?=some (.cells cs t fr))
  (hu:P.underlying ty=some d) (hd:(match d with|.struct _|.array _ _=>true|_=>false)=true) (hi:(P.info? ty).map (·.size)=some cs.size):YieldsIf P ops S op (.agg cs) a:=
 .inl ⟨hw,fun w hw'=>by
  unfold execOp
  simp only[ho,hx,Instr.loadAt,Instr.sureAddr,Sem.run_bind,Sem.run_pure,Result.andThen_ok,run_loadVar_row w g t ty cs fr d (hS w hw') hu hd hi]⟩
theorem qV{P:Program}{ops:Array Oper}{rest:List Oper}{o:Oper}{a:Act}{W:World}{Q:Exit->Act->World->Prop}(hgd:o.guard=none)(ty:TypeId)(x y:Operand)(ho:o.op=.store ty x y)
  (cells:Array Value) (t:TypeId) (old:Array Value) (hx:a.eval x=.pointer (some ⟨W.heap.size,0,none⟩)) (hy:a.eval y=.agg cells)
  (hi:(P.info? ty).map (·.size)=some cells.size) (hold:old.size=cells.size) (h1:cells.all (·.oneCell')=true)
  (h:∀V:World,V.heap[W.heap.size]?=some (.cells cells t (0,0))->Below W.heap.size W V->wpList P ops Q rest (a.put o.dst undef) V):wpList P ops Q (o::rest) a (W.alloc (.cells old t (0,0))):=
 wpList_store_row hgd ty x y ho W.heap.size cells hx hy t old (heap_alloc_new _ _) hi hold h1 (h _ (setRow_heap _ _ _ _ _ _ (heap_alloc_new _ _)) (zh ((Below.refl _ _).alloc (Nat.le_refl _) _) (Nat.le_refl _) _))
def Box(w:World)(b:Nat)(p:Ac):Prop:=w.heap[b]?=some (.cells #[.int .i64 p.seq,.bool p.st,.bool p.kn,.int .u32 p.pl,.int .i64 p.many,.int .u32 p.data,.bool p.done] 100 (0,0))
theorem Box.below{w w':World}{b B:Nat}{p:Ac}(h:Box w b p)(hB:w.heap.size<=B)(hb:Below B w w'):Box w' b p:=(hb.block b (Nat.lt_of_lt_of_le (zr h) hB)).trans h
theorem Box.cell{w:World}{b:Nat}{p:Ac}(h:Box w b p){j:Nat}{u:Value}(hj:(cel p)[j]?=some u):w.cell? ⟨b,j,none⟩=some u:=(cell_of_row _ _ _ _ _ _ h).trans (by simpa[cel]using hj)
theorem zas(p:Ac)(w:World):Calls prog 151 #[acv p] w fun e w'=>e=.returned (.int .u64 (wd p))/\Below w.heap.size w w':=by
 obtain⟨s,t,k,x,m,d,o⟩:=p
 rcases(by omega:m<0\/(0<=m/\m<=4)\/4<m)with h|h|h
 ·have HV:Hid (wd ⟨s,t,k,x,m,d,o⟩=0):=by show wd _=_;simp[wd,h]
  go_enter func151,ntmps151
  go_wp2
  go_ret
  exact⟨zv (by have:=HV.out;omega),(Below.refl _ _).alloc (Nat.le_refl _) _⟩
 ·have HV:Hid (wd ⟨s,t,k,x,m,d,o⟩=m):=by show wd _=_;simp[wd];omega
  go_enter func151,ntmps151
  go_wp2
  go_ret
  exact⟨zv (by have:=HV.out;omega),(Below.refl _ _).alloc (Nat.le_refl _) _⟩
 ·have HV:Hid (wd ⟨s,t,k,x,m,d,o⟩=4):=by show wd _=_;simp[wd];omega
  go_enter func151,ntmps151
  go_wp2
  go_ret
  exact⟨zv (by have:=HV.out;omega),(Below.refl _ _).alloc (Nat.le_refl _) _⟩
theorem zat(p:Ac)(seq:Int)(w:World):Calls prog 99 #[acv p,.int .i64 seq] w fun e w'=>e=.returned (.bool (ahd seq p))/\Below w.heap.size w w':=by
 obtain⟨s,t,k,x,m,d,o⟩:=p
 go_enter func99,ntmps99
 go_wp2
 all_goals(go_ret;refine⟨?_,(Below.refl _ _).alloc (Nat.le_refl _) _⟩;simp_all[ahd])
theorem zhg(p:Ac)(seq:Int)(w:World):Calls prog 153 #[acv p,.int .i64 seq] w fun e w'=>e=.returned (.bool (ovr seq p))/\Below w.heap.size w w':=by
 obtain⟨s,t,k,x,m,d,o⟩:=p
 go_enter func153,ntmps153
 go_wp2
 all_goals(go_ret;refine⟨?_,(Below.refl _ _).alloc (Nat.le_refl _) _⟩;simp_all[ovr])
def ldo(many:Int):Int:=if many=1 then 14 else if many=2 then 15 else if many=4 then 13 else 0
theorem zcf(many:Int)(w:World):Calls prog 95 #[.int .i64 many] w fun e w'=>e=.returned (.int .i64 (ldo many))/\w'=w:=by
 go_enter func95,ntmps95
 go_wp2
 all_goals(go_ret;refine⟨?_,rfl⟩;simp_all[ldo])
theorem zei(p:Ac)(ho:p.Ok)(x:Int)(x0:0<=x)(x1:x<=18446744073709551615)(w:World):Calls prog 129 #[acv p,.int .u64 x] w fun e w'=>e=.returned (.bool (hs p x))/\Below w.heap.size w w':=by
 have C:=fun w=>zas p w
 have hr:=zef p
 obtain⟨D,hD⟩:∃D,D=wd p:=⟨_,rfl⟩
 have HV:Hid (hs p x=decide (p.pl<=x/\x<p.pl+D)):=by rw[hD];rfl
 rw[<-hD]at C hr
 clear hD
 obtain⟨h1,h2,_,_,_,_⟩:=ho
 obtain⟨s,t,k,y,m,d,o⟩:=p
 simp only at h1 h2 HV
 by_cases hle:y<=x
 ·go_enter func129,ntmps129
  go_wp2_with fail
  refine(C _).mono ?_
  rintro e w' ⟨rfl,hb⟩
  have HB:Hid (Below w.heap.size w w'):=((Below.refl _ w).alloc (Nat.le_refl _) _).trans (hb.mono (by simp))
  clear C hb
  go_wp2_with fail
  go_ret
  exact⟨by rw[HV.out];simp[hle],HB.out⟩
 ·go_enter func129,ntmps129
  go_wp2_with fail
  go_ret
  exact⟨by rw[HV.out];simp;omega,(Below.refl _ _).alloc (Nat.le_refl _) _⟩
theorem zhh(s a:Ac)(hs1:Hid s.Ok)(ha:Hid a.Ok)(w:World):Calls prog 154 #[acv s,acv a] w fun e w'=>e=.returned (.bool (mt s a))/\Below w.heap.size w w':=by
 obtain⟨D,hD⟩:∃D:Nat,wd a=D:=⟨(wd a).toNat,by have:=zef a;omega⟩
 have hD4:D<=4:=by have:=zef a;omega
 have C:=fun w=>zas a w
 rw[hD]at C
 have HD:Hid (wd a=D):=hD
 clear hD
 have p0:=ha.out.p0
 have p1:=ha.out.p1
 go_enter func154,ntmps154
 go_upto_region 1 with fail
 refine qH (Φ:=fun W=>Code.wp _ _ _ _ W) ?_
 intro W h1 h2 hb hsz
 have B1:Hid (Box W w.heap.size s):=h1
 have B2:Hid (Box W (w.heap.size+1) a):=h2
 have HB0:Hid (Below w.heap.size w W):=hb
 clear h1 h2 hb
 go_wp2_with(refine wpList_load_row rfl 100 _ rfl _ rfl 100 _ (0,0) _ B2.out underlying100 rfl jb ?_)
 refine(C _).mono ?_
 rintro e W1 ⟨rfl,hb⟩
 have HB1:Hid (Below W.heap.size W W1):=hb
 clear hb C
 go_wp2_with fail
 go_loopw [8] (fun i wr=>∃k:Nat,k<=D/\i=.int .u64 k/\Hid (Below W.heap.size W wr)/\Hid (∀j:Nat,j<k->hs s (a.pl+j)=false))
  (fun i _=>D-(intOf i).toNat)
 case atStart=>exact⟨0,by omega,rfl,HB1,fun j hj=>absurd hj (by omega)⟩
 case round=>
  obtain⟨k,hk,rfl,HB,HN⟩:=hrel
  have R1:Hid (Box wr w.heap.size s):=B1.out.below (Nat.le_refl _) HB.out
  have c3:wr.cell? ⟨w.heap.size+1,3,none⟩=some (.int .u32 a.pl):=(B2.out.below (Nat.le_refl _) HB.out).cell rfl
  by_cases hlt:k<D
  ·have C:=fun w=>zei s hs1.out (a.pl+k) (by omega) (by omega) w
   cases hh:hs s (a.pl+k)with
   |true=>
    rw[hh]at C
    have HM:Hid (mt s a=true):=zn4 hh (decide_eq_true ⟨by omega,by rw[HD.out];omega⟩)
    clear hh
    go_wp2_with(refine wpList_load_row rfl 100 _ rfl _ rfl 100 _ (0,0) _ R1.out underlying100 rfl jb ?_)
    refine(C _).mono ?_
    rintro e W2 ⟨rfl,hb⟩
    have HB2:Hid (Below w.heap.size w W2):=HB0.out.trans ((HB.out.trans (hb.mono HB.out.size)).mono HB0.out.size)
    clear hb C
    go_wp2_with fail
    go_ret
    exact⟨by rw[HM.out];rfl,HB2.out⟩
   |false=>
    rw[hh]at C
    have HN':Hid (∀j:Nat,j<k+1->hs s (a.pl+j)=false):=fun j hj=>by
     by_cases e:j=k
     ·rw[e];exact hh
     ·exact HN.out j (by omega)
    clear hh
    go_wp2_with(refine wpList_load_row rfl 100 _ rfl _ rfl 100 _ (0,0) _ R1.out underlying100 rfl jb ?_)
    refine(C _).mono ?_
    rintro e W2 ⟨rfl,hb⟩
    have HB2:Hid (Below W.heap.size W W2):=HB.out.trans (hb.mono HB.out.size)
    clear hb C
    go_wp2_with fail
    exact⟨⟨k+1,by omega,by go_num,HB2,HN'⟩,by simp[intOf];omega⟩
  ·have HM:Hid (mt s a=false):=by
    show mt s a=false
    cases hm:mt s a with
    |false=>rfl
    |true=>
     obtain⟨x,_,h1,h2⟩:=zpR hm
     simp only[hs,decide_eq_true_eq]at h2
     rw[HD.out]at h2
     have:=HN.out (x-a.pl).toNat (by omega)
     rw[show a.pl+((x-a.pl).toNat:Int)=x by omega,h1]at this
     cases this
   have HB2:Hid (Below w.heap.size w wr):=HB0.out.trans (HB.out.mono HB0.out.size)
   go_wp2_with fail
   go_ret
   exact⟨by rw[HM.out];rfl,HB2.out⟩
def Asks(g:Nat)(b:Nat)(p:Ac->Bool)(w:World):Prop:=
 ∀(W:World) (q:Ac),Below w.heap.size w W->Calls prog g #[acv q,.pointer (some ⟨b,0,none⟩)] W fun e w'=>e=.returned (.bool (p q))/\Below W.heap.size W w'
theorem zjy(B:Nat)(seq:Int)(w:World)(hc:w.cell? ⟨B,0,none⟩=some (.int .i64 seq)):Asks 98 B (unk seq) w:=by
 intro W q hb
 have hB:B<w.heap.size:=World.block_lt_of_cell? _ _ hc
 have hc1:W.cell? ⟨B,0,none⟩=some (.int .i64 seq):=(hb.cell (p:=⟨B,0,none⟩) hB).trans hc
 have hB1:B<W.heap.size:=Nat.lt_of_lt_of_le hB hb.size
 clear hb hc hB
 have C:=fun w=>zat q seq w
 go_enter func98,ntmps98
 go_upto_region 1 with fail
 refine zA (Φ:=fun W=>Code.wp _ _ _ _ W) ?_
 intro V h1 hb
 have B1:Hid (Box V W.heap.size q):=h1
 have HB1:Hid (Below W.heap.size W V):=hb
 have c1:V.cell? ⟨B,0,none⟩=some (.int .i64 seq):=(hb.cell (p:=⟨B,0,none⟩) hB1).trans hc1
 clear h1 hb hc1
 cases hh:ahd seq q with
 |true=>
  rw[hh]at C
  have HM:Hid (unk seq q=!q.kn):=by show(_&&_)=_;rw[hh];rfl
  clear hh
  go_wp2_with(refine wpList_load_row rfl 100 _ rfl _ rfl 100 _ (0,0) _ B1.out underlying100 rfl jb ?_)
  refine(C _).mono ?_
  rintro e W2 ⟨rfl,hb⟩
  have HB2:Hid (Below W.heap.size W W2):=HB1.out.trans (hb.mono HB1.out.size)
  have c2:W2.cell? ⟨W.heap.size,2,none⟩=some (.bool q.kn):=(B1.out.below (Nat.le_refl _) hb).cell rfl
  clear hb C
  go_wp2_with fail
  go_ret
  exact⟨by rw[HM.out];rfl,HB2.out⟩
 |false=>
  rw[hh]at C
  have HM:Hid (unk seq q=false):=by show(_&&_)=_;rw[hh];rfl
  clear hh
  go_wp2_with(refine wpList_load_row rfl 100 _ rfl _ rfl 100 _ (0,0) _ B1.out underlying100 rfl jb ?_)
  refine(C _).mono ?_
  rintro e W2 ⟨rfl,hb⟩
  have HB2:Hid (Below W.heap.size W W2):=HB1.out.trans (hb.mono HB1.out.size)
  clear hb C
  go_wp2_with fail
  go_ret
  exact⟨by rw[HM.out];rfl,HB2.out⟩
theorem zej(B:Nat)(seq:Int)(w:World)(hc:w.cell? ⟨B,0,none⟩=some (.int .i64 seq)):Asks 152 B (sto1 seq) w:=by
 intro W q hb
 have hB:B<w.heap.size:=World.block_lt_of_cell? _ _ hc
 have hc1:W.cell? ⟨B,0,none⟩=some (.int .i64 seq):=(hb.cell (p:=⟨B,0,none⟩) hB).trans hc
 have hB1:B<W.heap.size:=Nat.lt_of_lt_of_le hB hb.size
 clear hb hc hB
 obtain⟨s,t,k,x,m,d,o⟩:=q
 go_enter func152,ntmps152
 go_wp2
 all_goals(go_ret;refine⟨?_,(Below.refl _ _).alloc (Nat.le_refl _) _⟩;simp_all[sto1]<;>rfl)
theorem zn5:∀args w,(callFunc 98 args).run prog w=.ok (.enter 98 args) w:=enters_of func98 (by kernel_rfl) rfl
theorem zkE:∀args w,(callFunc 152 args).run prog w=.ok (.enter 152 args) w:=enters_of func152 (by kernel_rfl) rfl
theorem qj(g b:Nat)(p:Ac->Bool)(eg:∀args w,(callFunc g args).run prog w=.ok (.enter g args) w)(a:Option Addr)(n c:Nat)(hn:n<=140737488355328)(l:List Ac)(m:Nat)(hm:Hid (FirstA p l m))(r:Int)(hr:Hid (r=if m<n then(m:Int)else-1))(w:World)(hL:Hid (LC w a n c 7 (acs l)))(hA:Hid (Asks g b p w)):
  Calls prog 66 #[.slice a n c,.func (.func g) #[] #[.pointer (some ⟨b,0,none⟩)]] w fun e w'=>e=.returned (.int .i64 r)/\Below w.heap.size w w':=by
 have hlen:Hid (l.length=n):=by have:=hL.out.len;rw[vb]at this;show _=_;omega
 have hmn:m<=n:=by have:=hm.out.le;have:=hlen.out;omega
 go_enter func66,ntmps66
 go_wp2_with fail
 go_loopw [8] (fun i wr=>∃k:Nat,k<=m/\i=.int .i64 k/\Hid (Below w.heap.size w wr))
  (fun i _=>n-(intOf i).toNat)
 case atStart=>exact⟨0,by omega,rfl,Below.refl _ _⟩
 case round=>
  obtain⟨k,hk,rfl,HB⟩:=hrel
  by_cases hlt:k<n
  ·obtain⟨q,hq⟩:=zeh (l:=l) (k:=k) (by rw[hlen.out];exact hlt)
   obtain⟨bb,o,rfl,hb,hc⟩:=hL.out.sure (by omega)
   have cc:∀j u,(cel q)[j]?=some u->wr.cell? ⟨bb,o+(k*7+j),none⟩=some u:=fun j u hj=>(HB.out.cell (p:=⟨bb,o+(k*7+j),none⟩) hb).trans (hc _ _ (yr _ _ _ _ _ hq hj))
   have c0:wr.cell? ⟨bb,o+k*7,none⟩=some (.int .i64 q.seq):=cc 0 _ rfl
   have c1:wr.cell? ⟨bb,o+k*7+1,none⟩=some (.bool q.st):=cc 1 _ rfl
   have c2:wr.cell? ⟨bb,o+k*7+2,none⟩=some (.bool q.kn):=cc 2 _ rfl
   have c3:wr.cell? ⟨bb,o+k*7+3,none⟩=some (.int .u32 q.pl):=cc 3 _ rfl
   have c4:wr.cell? ⟨bb,o+k*7+4,none⟩=some (.int .i64 q.many):=cc 4 _ rfl
   have c5:wr.cell? ⟨bb,o+k*7+5,none⟩=some (.int .u32 q.data):=cc 5 _ rfl
   have c6:wr.cell? ⟨bb,o+k*7+6,none⟩=some (.bool q.done):=cc 6 _ rfl
   have hcall:=hA.out wr q HB.out
   by_cases hkm:k=m
   ·subst hkm
    have hp:p q=true:=hm.out.yes _ hq
    rw[hp]at hcall
    have hrk:r=k:=by rw[hr.out,if_pos hlt]
    subst hrk
    clear hc hq hp cc
    go_wp2_with fail
    refine hcall.mono ?_
    rintro e w' ⟨rfl,hb'⟩
    have HB':Hid (Below w.heap.size w w'):=HB.out.trans (hb'.mono HB.out.size)
    clear hcall hb' c0 c1 c2 c3 c4 c5 c6
    go_wp2_with fail
    go_ret
    exact⟨rfl,HB'.out⟩
   ·have hp:p q=false:=hm.out.no k _ (by omega) hq
    rw[hp]at hcall
    clear hc hq hp cc
    go_wp2_with fail
    refine hcall.mono ?_
    rintro e w' ⟨rfl,hb'⟩
    have HB':Hid (Below w.heap.size w w'):=HB.out.trans (hb'.mono HB.out.size)
    clear hcall hb' c0 c1 c2 c3 c4 c5 c6
    go_wp2_with fail
    exact⟨⟨k+1,by omega,by go_num,HB'⟩,by simp[intOf];omega⟩
  ·have:k=n:=by omega
   subst this
   have hrk:r=-1:=by rw[hr.out,if_neg (by omega)]
   subst hrk
   go_wp2_with fail
   go_ret
   exact⟨rfl,HB.out⟩
theorem yb(g b:Nat)(p:Ac->Bool)(eg:∀args w,(callFunc g args).run prog w=.ok (.enter g args) w)(a:Option Addr)(n c:Nat)(hn:n<=140737488355328)(l:List Ac)(m:Nat)(hm:Hid (FirstA p l m))(r:Bool)(hr:Hid (r=decide (m<n)))(w:World)(hL:Hid (LC w a n c 7 (acs l)))(hA:Hid (Asks g b p w)):
  Calls prog 97 #[.slice a n c,.func (.func g) #[] #[.pointer (some ⟨b,0,none⟩)]] w fun e w'=>e=.returned (.bool r)/\Below w.heap.size w w':=by
 obtain⟨x,hx⟩:∃x,Hid (x=if m<n then(m:Int)else-1):=⟨_,rfl⟩
 have C:=fun w hL hA=>qj g b p eg a n c hn l m hm x hx w hL hA
 have hr2:Hid (decide (0<=x)=r):=by
  show _=_
  rw[hr.out,hx.out]
  by_cases h:m<n
  ·rw[if_pos h];simp[h]
  ·rw[if_neg h];simp[h]
 go_enter func97,ntmps97
 go_wp2_with fail
 refine(C _ hL hA).mono ?_
 rintro e w' ⟨rfl,hb⟩
 have HB:Hid (Below w.heap.size w w'):=hb
 clear hb C
 go_wp2_with fail
 go_ret
 exact⟨by simp[hr2.out],HB.out⟩
end Go.Proofs.YtpiohehijkpghabGreatDoor.Od
