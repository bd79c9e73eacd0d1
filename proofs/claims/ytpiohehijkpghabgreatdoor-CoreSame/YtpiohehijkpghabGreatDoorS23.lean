/- What slices.Concat comes to, of two slices of numbers. -/
import Derived.WalkKit
import Derived.Maps.OwnOps
import Derived.Maps.Views
import Derived.OwnWalk
import Derived.Laws.OwnMore
import Derived.Test.YtpiohehijkpghabGreatDoorChecked
import Derived.ProofKit
import Derived.Below
import Derived.Deep.MidRow
import Derived.Deep.WholeRow
import Derived.Laws.Rows
import Derived.Laws.Tables
import Derived.Deep.QuietTactic
import Derived.BigQuiet
import Derived.Deep.Cut
import Derived.Deep.RegionWith
import Derived.Deep.RegionHeld
import Derived.Lib.SliceRun
set_option maxRecDepth 20000
set_option maxHeartbeats 1000000
set_option linter.unusedVariables false
open Go.Proofs.Tryz
namespace Go.Proofs.YtpiohehijkpghabGreatDoor.Re.Hy
open Go.RowKit
def cn(g:Nat->Int)(x:Int):Nat->Nat
 |0=>0
 |k+1=>cn g x k+(if g k=x then 1 else 0)
def sm(h:Nat->Nat):Nat->Nat
 |0=>0
 |k+1=>sm h k+h k
def jn(r f:Nat->Int)(i:Nat):Int:=if i<32 then r i else f (i-32)
theorem jn_r{r f:Nat->Int}{i:Nat}(h:i<32):jn r f i=r i:=if_pos h
theorem jn_f{r f:Nat->Int}(i:Nat):jn r f (32+i)=f i:=by
 unfold jn
 rw[if_neg (by omega),show 32+i-32=i by omega]
theorem zoc(g:Nat->Int)(x:Int):∀n,cn g x n<=n
 |0=>Nat.le_refl _
 |n+1=>by
  have:=zoc g x n
  unfold cn
  split<;>omega
theorem zjC{g h:Nat->Int}(x:Int):∀n,(∀i,i<n->g i=h i)->cn g x n=cn h x n
 |0,_=>rfl
 |n+1,e=>by
  unfold cn
  rw[zjC x n (fun i hi=>e i (by omega)),e n (by omega)]
theorem za8(g:Nat->Int)(x:Int):∀n,cn g x n=0↔∀i,i<n->g i≠x
 |0=>⟨fun _ i h=>absurd h (by omega),fun _=>rfl⟩
 |n+1=>by
  have ih:=za8 g x n
  constructor
  ·intro h i hi
   have h':cn g x n+(if g n=x then 1 else 0)=0:=h
   by_cases e:g n=x
   ·rw[if_pos e]at h';omega
   ·rcases(by omega:i<n\/i=n)with q|q
    ·exact ih.1 (by omega) i q
    ·rw[q];exact e
  ·intro h
   show cn g x n+(if g n=x then 1 else 0)=0
   rw[if_neg (h n (by omega)),ih.2 (fun i hi=>h i (by omega))]
theorem zhj(g:Nat->Int)(Q:Int->Prop):∀n,(∀i,i<n->Q (g i))->((∀x,Q x->cn g x n<=1)↔∀i j,i<n->j<n->g i=g j->i=j)
 |0,_=>⟨fun _ i _ h=>absurd h (by omega),fun _ x _=>by simp[cn]⟩
 |n+1,hQ=>by
  have ih:=zhj g Q n (fun i hi=>hQ i (by omega))
  constructor
  ·intro h
   have h1:∀x,Q x->cn g x n<=1:=fun x hx=>by
    have:=h x hx
    unfold cn at this
    omega
   have h2:∀i,i<n->g i≠g n:=by
    have h3:=h (g n) (hQ n (by omega))
    unfold cn at h3
    rw[if_pos rfl]at h3
    exact(za8 g (g n) n).1 (by omega)
   intro i j hi hj e
   rcases(by omega:i<n\/i=n)with a|a<;>rcases(by omega:j<n\/j=n)with b|b
   ·exact(ih.1 h1) i j a b e
   ·subst b;exact absurd e (h2 i a)
   ·subst a;exact absurd e.symm (h2 j b)
   ·omega
  ·intro h x hx
   have h1:=ih.2 (fun i j hi hj e=>h i j (by omega) (by omega) e) x hx
   unfold cn
   by_cases e:g n=x
   ·have:cn g x n=0:=(za8 g x n).2 fun i hi e2=>by
     have:=h i n (by omega) (by omega) (by rw[e,e2])
     omega
    rw[if_pos e];omega
   ·rw[if_neg e];omega
theorem zek{a b:Nat->Nat}:∀n,(∀i,i<n->a i=b i)->sm a n=sm b n
 |0,_=>rfl
 |n+1,e=>by
  unfold sm
  rw[zek n (fun i hi=>e i (by omega)),e n (by omega)]
theorem zhk{a b:Nat->Nat}:∀n,(∀i,i<n->a i<=b i)->sm a n<=sm b n
 |0,_=>Nat.le_refl _
 |n+1,e=>by
  have h1:=zhk n (fun i hi=>e i (by omega))
  have h2:=e n (by omega)
  unfold sm
  omega
theorem zod{a b:Nat->Nat}:∀n,(∀i,i<n->a i<=b i)->sm a n=sm b n->∀i,i<n->a i=b i
 |0,_,_=>fun i h=>absurd h (by omega)
 |n+1,e,h=>fun i hi=>by
  have h1:=zhk n (fun i hi=>e i (by omega))
  have h2:=e n (by omega)
  unfold sm at h
  rcases(by omega:i<n\/i=n)with q|q
  ·exact zod n (fun i hi=>e i (by omega)) (by omega) i q
  ·subst q;omega
theorem zhl{a:Nat->Nat}(n:Nat)(h:∀i,i<n->a i<=1):sm a n<=n:=by
 have:∀n,sm (fun _=>1) n=n:=fun n=>by
  induction n with
  |zero=>rfl
  |succ n ih=>show sm _ n+1=n+1;rw[ih]
 exact Nat.le_trans (zhk n h) (Nat.le_of_eq (this n))
theorem zkF(a b:Nat->Nat):∀n,sm (fun i=>a i+b i) n=sm a n+sm b n
 |0=>rfl
 |n+1=>by
  show sm (fun i=>a i+b i) n+(a n+b n)=sm a n+a n+(sm b n+b n)
  rw[zkF a b n]
  omega
theorem zkG(y:Int):∀n:Nat,sm (fun p=>if y=(p:Int)then 1 else 0) n=if 0<=y/\y<n then 1 else 0
 |0=>by simp[sm]
 |n+1=>by
  show sm (fun p=>if y=(p:Int)then 1 else 0) n+(if y=(n:Int)then 1 else 0)=_
  rw[zkG y n]
  by_cases e:y=n
  ·rw[if_neg (by omega),if_pos e,if_pos (by omega)]
  ·rw[if_neg e]
   by_cases q:0<=y/\y<n
   ·rw[if_pos q,if_pos (by omega)]
   ·rw[if_neg q,if_neg (by omega)]
theorem zoe(g:Nat->Int)(P:Nat):∀N,sm (fun p=>cn g p (N+1)) P=sm (fun p=>cn g p N) P+if 0<=g N/\g N<P then 1 else 0:=fun N=>by
 have:sm (fun p=>cn g p (N+1)) P=sm (fun p=>cn g p N+(if g N=(p:Int)then 1 else 0)) P:=rfl
 rw[this,zkF,zkG]
theorem yA(g:Nat->Int)(P:Nat):∀N,sm (fun p=>cn g p N) P<=N
 |0=>by
  have:sm (fun p=>cn g p 0) P<=sm (fun _=>0) P:=zhk P (fun i _=>Nat.le_refl _)
  have h0:∀n,sm (fun _=>0) n=0:=fun n=>by induction n with
   |zero=>rfl
   |succ n ih=>show sm _ n+0=0;rw[ih]
  rw[h0]at this
  exact this
 |N+1=>by
  rw[zoe]
  have:=yA g P N
  split<;>omega
theorem zch(g:Nat->Int)(P:Nat):∀N,sm (fun p=>cn g p N) P=N↔∀i,i<N->0<=g i/\g i<P
 |0=>⟨fun _ i h=>absurd h (by omega),fun _=>by have:=yA g P 0;omega⟩
 |N+1=>by
  have ih:=zch g P N
  have hle:=yA g P N
  rw[zoe]
  constructor
  ·intro h i hi
   by_cases e:0<=g N/\g N<P
   ·rw[if_pos e]at h
    rcases(by omega:i<N\/i=N)with q|q
    ·exact ih.1 (by omega) i q
    ·rw[q];exact e
   ·rw[if_neg e]at h;omega
  ·intro h
   rw[if_pos (h N (by omega)),ih.2 (fun i hi=>h i (by omega))]
structure All(g:Nat->Int)(N P:Nat):Prop where
 rng:∀i,i<N->0<=g i/\g i<P
 inj:∀i j,i<N->j<N->g i=g j->i=j
theorem zlL(g:Nat->Int)(N P:Nat):((∀p,p<P->cn g (p:Nat) N<=1)/\sm (fun p=>cn g p N) P=N)↔All g N P:=by
 rw[zch]
 constructor
 ·rintro⟨h,hr⟩
  refine⟨hr,(zhj g (fun x=>0<=x/\x<P) N hr).1 fun x hx=>?_⟩
  have:=h x.toNat (by omega)
  rwa [Int.toNat_of_nonneg hx.1]at this
 ·rintro⟨hr,hi⟩
  exact⟨fun p hp=>(zhj g (fun x=>0<=x/\x<P) N hr).2 hi p ⟨by omega,by omega⟩,hr⟩
def o1(g:Nat->Int)(N p:Nat):Nat:=if cn g p N=1 then 1 else 0
theorem za9(g:Nat->Int)(N P:Nat):(N<=P/\sm (o1 g N) P=N)↔All g N P:=by
 rw[<-zlL]
 have hle:∀p,p<P->o1 g N p<=cn g p N:=fun p _=>by unfold o1;split<;>omega
 constructor
 ·rintro⟨h1,h2⟩
  have a:=zhk P hle
  have b:=yA g P N
  have c:=zod P hle (by omega)
  refine⟨fun p hp=>?_,by omega⟩
  rw[<-c p hp]
  unfold o1
  split<;>omega
 ·rintro⟨h1,h2⟩
  have c:∀p,p<P->o1 g N p=cn g p N:=fun p hp=>by
   have:=h1 p hp
   unfold o1
   split<;>omega
  have e:sm (o1 g N) P=N:=(zek P c).trans h2
  refine⟨?_,e⟩
  have:=zhl P (fun i hi=>(show o1 g N i<=1 by unfold o1;split<;>omega))
  omega
structure MayBe(P:Int)(n:Nat)(r f:Nat->Int):Prop where
 low:33<=P
 high:P<=96
 all:All (jn r f) (32+n) P.toNat
theorem MayBe.few{P:Int}{n:Nat}{r f:Nat->Int}(h:MayBe P n r f):32+n<=P/\n<=64:=by
 have:=((za9 _ _ _).2 h.all).1
 have:=h.low
 have:=h.high
 omega
theorem MayBe.mk'{P:Int}{n:Nat}{r f:Nat->Int}(low:33<=P)(high:P<=96)(hr:∀i,i<32->0<=r i/\r i<P)(hf:∀i,i<n->0<=f i/\f i<P)
  (rr:∀i j,i<32->j<32->r i=r j->i=j) (ff:∀i j,i<n->j<n->f i=f j->i=j) (rf:∀i j,i<32->j<n->r i≠f j):MayBe P n r f:=by
 refine⟨low,high,fun i hi=>?_,fun i j hi hj e=>?_⟩
 ·by_cases a:i<32
  ·rw[jn_r a];have:=hr i a;omega
  ·rw[show i=32+(i-32) by omega,jn_f];have:=hf (i-32) (by omega);omega
 ·by_cases a:i<32<;>by_cases b:j<32
  ·rw[jn_r a,jn_r b]at e;exact rr i j a b e
  ·rw[jn_r a,show j=32+(j-32) by omega,jn_f]at e;exact absurd e (rf i _ a (by omega))
  ·rw[jn_r b,show i=32+(i-32) by omega,jn_f]at e;exact absurd e.symm (rf j _ b (by omega))
  ·rw[show i=32+(i-32) by omega,show j=32+(j-32) by omega,jn_f,jn_f]at e
   have:=ff (i-32) (j-32) (by omega) (by omega) e
   omega
def up(f:Nat->Int)(k:Nat)(x:Int)(j:Nat):Int:=if j=k then x else f j
theorem zfE(f:Nat->Int)(k:Nat)(x:Int):up f k x k=x:=if_pos rfl
theorem zjD{f:Nat->Int}{k:Nat}{x:Int}{j:Nat}(h:j≠k):up f k x j=f j:=if_neg h
theorem zof(f:Nat->Int)(k:Nat)(x y:Int):up (up f k x) k y=up f k y:=by
 funext j
 unfold up
 split<;>rfl
theorem zog(f:Nat->Int)(k:Nat):up f k (f k)=f:=by
 funext j
 unfold up
 split
 ·rename_i h;rw[h]
 ·rfl
def tl(f:Nat->Int)(i:Nat):Int:=f (i+1)
def hd(x:Int)(f:Nat->Int)(i:Nat):Int:=if i=0 then x else f (i-1)
def en(f:Nat->Int)(n:Nat)(x:Int)(i:Nat):Int:=if i<n then f i else x
structure Idle(P:Int)(n:Nat)(r f:Nat->Int)(x:Int):Prop where
 lo:0<=x
 hi:x<P
 no:cn (jn r f) x (32+n)=0
theorem Idle.mk'{P:Int}{n:Nat}{r f:Nat->Int}{x:Int}(lo:0<=x)(hi:x<P)(hr:∀i,i<32->r i≠x)(hf:∀i,i<n->f i≠x):Idle P n r f x:=by
 refine⟨lo,hi,(za8 _ _ _).2 fun i hi=>?_⟩
 by_cases a:i<32
 ·rw[jn_r a];exact hr i a
 ·rw[show i=32+(i-32) by omega,jn_f];exact hf _ (by omega)
abbrev mcs(P:Int)(r:Nat->Int)(v:Value):Array Value:=#[.int .i64 P,.int .i64 (r 0),.int .i64 (r 1),.int .i64 (r 2),.int .i64 (r 3),.int .i64 (r 4),.int .i64 (r 5),.int .i64 (r 6),.int .i64 (r 7),.int .i64 (r 8),.int .i64 (r 9),.int .i64 (r 10),.int .i64 (r 11),.int .i64 (r 12),.int .i64 (r 13),.int .i64 (r 14),.int .i64 (r 15),.int .i64 (r 16),.int .i64 (r 17),.int .i64 (r 18),.int .i64 (r 19),.int .i64 (r 20),.int .i64 (r 21),.int .i64 (r 22),.int .i64 (r 23),.int .i64 (r 24),.int .i64 (r 25),.int .i64 (r 26),.int .i64 (r 27),.int .i64 (r 28),.int .i64 (r 29),.int .i64 (r 30),.int .i64 (r 31),v]
theorem zfF(P:Int)(r:Nat->Int)(v:Value)(k:Nat)(h:k<32):(mcs P r v)[1+k]?=some (.int .i64 (r k)):=
 match k,h with
 |0,_=>rfl
 |1,_=>rfl
 |2,_=>rfl
 |3,_=>rfl
 |4,_=>rfl
 |5,_=>rfl
 |6,_=>rfl
 |7,_=>rfl
 |8,_=>rfl
 |9,_=>rfl
 |10,_=>rfl
 |11,_=>rfl
 |12,_=>rfl
 |13,_=>rfl
 |14,_=>rfl
 |15,_=>rfl
 |16,_=>rfl
 |17,_=>rfl
 |18,_=>rfl
 |19,_=>rfl
 |20,_=>rfl
 |21,_=>rfl
 |22,_=>rfl
 |23,_=>rfl
 |24,_=>rfl
 |25,_=>rfl
 |26,_=>rfl
 |27,_=>rfl
 |28,_=>rfl
 |29,_=>rfl
 |30,_=>rfl
 |31,_=>rfl
 |n+32,h=>absurd h (by omega)
theorem zfG(P:Int)(r:Nat->Int)(v:Value)(x:Int)(k:Nat)(h:k<32):(mcs P r v).setIfInBounds (1+k) (.int .i64 x)=mcs P (up r k x) v:=
 match k,h with
 |0,_=>rfl
 |1,_=>rfl
 |2,_=>rfl
 |3,_=>rfl
 |4,_=>rfl
 |5,_=>rfl
 |6,_=>rfl
 |7,_=>rfl
 |8,_=>rfl
 |9,_=>rfl
 |10,_=>rfl
 |11,_=>rfl
 |12,_=>rfl
 |13,_=>rfl
 |14,_=>rfl
 |15,_=>rfl
 |16,_=>rfl
 |17,_=>rfl
 |18,_=>rfl
 |19,_=>rfl
 |20,_=>rfl
 |21,_=>rfl
 |22,_=>rfl
 |23,_=>rfl
 |24,_=>rfl
 |25,_=>rfl
 |26,_=>rfl
 |27,_=>rfl
 |28,_=>rfl
 |29,_=>rfl
 |30,_=>rfl
 |31,_=>rfl
 |n+32,h=>absurd h (by omega)
theorem zhm(P:Int)(r:Nat->Int)(v u:Value):(mcs P r v).setIfInBounds 33 u=mcs P r u:=rfl
theorem zoh(P Q:Int)(r:Nat->Int)(v:Value):(mcs P r v).setIfInBounds 0 (.int .i64 Q)=mcs Q r v:=rfl
theorem zel(P:Int)(r:Nat->Int)(v:Value):(mcs P r v).size=34:=rfl
end Go.Proofs.YtpiohehijkpghabGreatDoor.Re.Hy
namespace Go.Proofs.YtpiohehijkpghabGreatDoor.Re
open Go.RowKit
open Re.Hy
structure Lie(w:World)(a:Option Addr)(n c:Nat)(f:Nat->Int):Prop where
 le:n<=c
 top:c<=maxLen
 nil:a=none->n=0/\c=0
 wf:∀i,i<n->(Lit.int .i64 (f i)).wf=true
 ad:∀x,a=some x->0<n->∃b o,x=⟨b,o,none⟩/\∀i,i<n->w.cell? ⟨b,o+i,none⟩=some (.int .i64 (f i))
theorem Lie.below{w w':World}{a:Option Addr}{n c:Nat}{f:Nat->Int}(h:Lie w a n c f){B:Nat}(hB:w.heap.size<=B)(hb:Below B w w'):Lie w' a n c f:=
 ⟨h.le,h.top,h.nil,h.wf,fun x hx h0=>by
  obtain⟨b,o,rfl,hc⟩:=h.ad x hx h0
  exact⟨b,o,rfl,fun i hi=>(hb.cell (p:=⟨b,o+i,none⟩) (Nat.lt_of_lt_of_le (World.block_lt_of_cell? _ _ (hc i hi)) hB)).trans (hc i hi)⟩⟩
theorem Lie.congr{w:World}{a:Option Addr}{n c:Nat}{f f':Nat->Int}(h:Lie w a n c f)(e:∀i,i<n->f i=f' i):Lie w a n c f':=
 ⟨h.le,h.top,h.nil,fun i hi=>by rw[<-e i hi];exact h.wf i hi,fun x hx h0=>by
  obtain⟨b,o,rfl,hc⟩:=h.ad x hx h0
  exact⟨b,o,rfl,fun i hi=>by rw[<-e i hi];exact hc i hi⟩⟩
theorem Lie.sure{w:World}{a:Option Addr}{n c:Nat}{f:Nat->Int}(h:Lie w a n c f)(hn:0<n):∃b o,a=some ⟨b,o,none⟩/\b<w.heap.size/\∀i,i<n->w.cell? ⟨b,o+i,none⟩=some (.int .i64 (f i)):=by
 cases a with
 |none=>have:=(h.nil rfl).1;omega
 |some x=>
  obtain⟨b,o,rfl,hc⟩:=h.ad x rfl hn
  exact⟨b,o,rfl,World.block_lt_of_cell? _ _ (hc 0 hn),hc⟩
def Far(B:Nat)(a:Option Addr):Prop:=∀x,a=some x->B<=x.block
theorem Far.mono{B B':Nat}{a:Option Addr}(h:Far B a)(hB:B'<=B):Far B' a:=fun x hx=>Nat.le_trans hB (h x hx)
theorem Lie.moved{w w':World}{a:Option Addr}{n c:Nat}{f:Nat->Int}(h:Lie w a n c f)(hb:∀x,a=some x->w'.heap[x.block]?=w.heap[x.block]?):Lie w' a n c f:=
 ⟨h.le,h.top,h.nil,h.wf,fun x hx h0=>by
  have e:=hb x hx
  obtain⟨b,o,rfl,hc⟩:=h.ad x hx h0
  exact⟨b,o,rfl,fun i hi=>(World.cell?_of_block (w:=w) (a:=⟨b,o+i,none⟩) e).trans (hc i hi)⟩⟩
def row(f:Nat->Int)(n:Nat):List Value:=(List.range n).map fun i=>Value.int .i64 (f i)
theorem xP(f:Nat->Int)(n:Nat):(row f n).length=n:=by simp[row]
theorem zoi{f:Nat->Int}{n j:Nat}{u:Value}(h:(row f n)[j]?=some u):j<n/\u=.int .i64 (f j):=by
 have hj:j<n:=by have:=(List.getElem?_eq_some_iff.1 h).1;rwa [xP]at this
 refine⟨hj,?_⟩
 simp[row,hj]at h
 exact h.symm
theorem vd(f:Nat->Int){n j:Nat}(h:j<n):(row f n)[j]?=some (.int .i64 (f j)):=by simp[row,h]
theorem row_one(f:Nat->Int)(n:Nat):∀u∈row f n,u.oneCell'=true:=by
 intro u hu
 obtain⟨x,_,rfl⟩:=List.mem_map.1 hu
 rfl
def cat(F:Nat->Int)(n:Nat)(f:Nat->Int)(i:Nat):Int:=if i<n then F i else f (i-n)
theorem zhn(F:Nat->Int)(n:Nat)(f:Nat->Int)(m:Nat):row F n++row f m=row (cat F n f) (n+m):=by
 apply List.ext_getElem?
 intro j
 by_cases h:j<n
 ·rw[List.getElem?_append_left (by rw[xP];exact h),vd _ h,vd _ (by omega)]
  unfold cat
  rw[if_pos h]
 ·rw[List.getElem?_append_right (by rw[xP];omega),xP]
  by_cases h2:j<n+m
  ·rw[vd _ (by omega),vd _ h2]
   unfold cat
   rw[if_neg h]
  ·rw[List.getElem?_eq_none (by rw[xP];omega),List.getElem?_eq_none (by rw[xP];omega)]
theorem ve{f f':Nat->Int}{n:Nat}(e:∀i,i<n->f i=f' i):row f n=row f' n:=by
 unfold row
 apply List.map_congr_left
 intro i hi
 rw[e i (by simpa using hi)]
theorem yc{w:World}{B e n:Nat}{v:Value}{f:Nat->Int}(hown:w.ownsRow B e 1 v n (row f n))(hw:∀i,i<n->(Lit.int .i64 (f i)).wf=true):∃a c,v=.slice a n c/\Lie w a n c f/\Far B a:=by
 have hown0:=hown
 obtain⟨_,hcase⟩:=hown
 rcases hcase with⟨rfl,rfl⟩|⟨g,cap,cur,rfl,hg,hh,hn',hcap,hsz,htake⟩
 ·exact⟨none,0,rfl,⟨Nat.le_refl _,by unfold maxLen;omega,fun _=>⟨rfl,rfl⟩,hw,fun x hx _=>by cases hx⟩,fun x hx=>by cases hx⟩
 ·refine⟨_,cap,rfl,⟨hn',hcap,fun h=>(nomatch h),hw,fun x hx _=>⟨g,0,(Option.some.inj hx).symm,fun i hi=>?_⟩⟩,fun x hx=>by obtain rfl:=Option.some.inj hx;exact hg⟩
  have:=hown0.cells (g:=g) rfl i _ (vd f hi)
  rwa [Addr.add_lit]at this
theorem qu{P:Program}(w:World){ops:Array Oper}{rest:List Oper}{o:Oper}{a:Act}{Q:Exit->Act->World->Prop}(hgd:o.guard=none)(s x:Operand)(t:TypeId)
  (ho:o.op=.call {callee:=.builtin .append,args:=#[s,x],argTypes:=#[t,t]})
  (base:Nat) (e:TypeId) (i:TypeInfo) (ht:P.underlying t=some (.slice e)) (hi:P.info? e=some i) (hz:i.zero=some (.int .i64 0)) (hsize:i.size=1) (hby:i.bytes=8)
  (v:Value) (n:Nat) (F:Nat->Int) (hs:a.eval s=v) (hown:w.ownsRow base e 1 v n (row F n))
  (ao:Option Addr) (m c:Nat) (f:Nat->Int) (hx:a.eval x=.slice ao m c) (hl:Lie w ao m c f) (hb:n+m<=1000000) (hbase:base<=w.heap.size)
  (h:∀v' w',w'.ownsRow base e 1 v' (n+m) (row (cat F n f) (n+m))->w.grownBy w' v.ownBlock->wpList P ops Q rest (a.put o.dst v') w'):wpList P ops Q (o::rest) a w:=by
 cases ao with
 |some ad=>
  refine wpList_append_own w hgd s x t ho base e i (.int .i64 0) 1 8 ht hi hz hsize hby rfl (by decide) v n _ hs hown ad m c (row f m) hx (by rw[xP];omega) (fun j u hj=>?_) (row_one f m) (by unfold maxLen;omega) (by omega) hbase fun v' w' h1 h2 _=>h v' w' (by rw[<-zhn];exact h1) h2
  obtain⟨hj',rfl⟩:=zoi hj
  obtain⟨b,o',rfl,hc⟩:=hl.ad ad rfl (by omega)
  rw[Addr.add_lit]
  exact hc j hj'
 |none=>
  obtain⟨rfl,rfl⟩:=hl.nil rfl
  refine wpList_plain hgd fun K hK'=>?_
  have hrun:=run_append_owned_none (P:=P) w base t o.type e i 1 ht hi v n _ hown
  unfold Oper.wp
  simp only[execOp,ho,resolve,invoke,builtin,Sem.run_bind,Sem.run_pure,Result.andThen_ok,List.map_toArray,List.map_cons,List.map_nil,hs,hx,hrun]
  exact hK' _ _ (h v w (by rw[<-zhn];simpa[row]using hown) (World.grownBy.refl _ _))
structure Cnts(D:DataW Unit)(g:Nat->Int)(k:Nat):Prop where
 is:Maps.IsMap D
 at':∀x,D.atKey (.int .i64 x) (.lit (.int .i64 0))=.lit (.int .i64 (cn g x k))
theorem zho(g:Nat->Int):Cnts (.map []) g 0:=⟨⟨[],rfl⟩,fun x=>rfl⟩
theorem Cnts.num{D:DataW Unit}{g:Nat->Int}{k:Nat}(h:Cnts D g k){x c:Int}(hat:D.atKey (.int .i64 x) (.lit (.int .i64 0))=.lit (.int .i64 c)):c=cn g x k:=by
 have:=(h.at' x).symm.trans hat
 injection this with e
 injection e with _ e
 exact e.symm
theorem Cnts.step{D:DataW Unit}{g:Nat->Int}{k:Nat}(h:Cnts D g k){y c:Int}(hy:y=c+1)(hc:c=cn g (g k) k):Cnts (D.put (.int .i64 (g k)) (.lit (.int .i64 y))) g (k+1):=by
 refine⟨h.is.put _ _,fun x=>?_⟩
 by_cases e:g k=x
 ·subst e
  rw[Maps.atKey_put_same (k:=.int .i64 (g k)) h.is (show WideAt.IsKeyLit (.int .i64 (g k))from trivial),hy,hc]
  show _=DataW.lit (Lit.int _ ((cn g (g k) k+(if g k=g k then 1 else 0):Nat):Int))
  rw[if_pos rfl]
  rfl
 ·rw[Maps.atKey_put_other (by intro e2;injection e2 with _ e2;exact e e2.symm),h.at' x]
  show _=DataW.lit (Lit.int _ ((cn g x k+(if g k=x then 1 else 0):Nat):Int))
  rw[if_neg e,Nat.add_zero]
theorem wrap_small{c:Int}(h0:0<=c)(h1:c<=1000000):wrap64 c=c:=by
 have:=WalkArith.wf_i64 (n:=c) (by omega)
 unfold wrap64
 first|omega|(simp;omega)
theorem Cnts.next{D:DataW Unit}{g:Nat->Int}{k:Nat}(h:Cnts D g k){x c:Int}(hx:x=g k)(hat:D.atKey (.int .i64 x) (.lit (.int .i64 0))=.lit (.int .i64 c))(hk:k<1000000):Cnts (D.put (.int .i64 x) (.lit (.int .i64 (wrap64 (c+1))))) g (k+1):=by
 subst hx
 have e:=h.num hat
 have:=zoc g (g k) k
 exact h.step (wrap_small (by omega) (by omega)) e
theorem vf(x:Int)(w:World):Calls prog 36 #[.int .i64 x] w fun e w'=>e=.returned (.bool (decide (33<=x/\x<=96)))/\w'=w:=by
 go_enter func36,ntmps36
 go_wp2
 all_goals go_ret
 all_goals exact⟨by simp;omega,rfl⟩
theorem zau(x:Int)(w:World):Calls prog 146 #[.int .i64 x] w fun e w'=>e=.returned (.bool (decide (1<=x/\x<32)))/\w'=w:=by
 go_enter func146,ntmps146
 go_wp2
 all_goals go_ret
 all_goals exact⟨by simp;try omega,rfl⟩
end Go.Proofs.YtpiohehijkpghabGreatDoor.Re
namespace Go.Proofs.YtpiohehijkpghabGreatDoor.Re
open Go.RowKit Go.Maps
open Re.Hy
theorem zr{w:World}{b:Nat}{o:Obj}(h:w.heap[b]?=some o):b<w.heap.size:=(Array.getElem?_eq_some_iff.1 h).1
theorem law3:Keyed prog 3:=int_keyed underlying3
theorem zjE(w:World):(zeroValue 3).run prog w=.ok (.int .i64 0) w:=by kernel_rfl
theorem zci(T:Array Value)(P:Int)(r f:Nat->Int)(a:Option Addr)(n c:Nat)(hT:Hid (T=mcs P r (.slice a n c)))(hF:T[33]?=some (.slice a n c))(hR:Hid (∀k,k<32->(Lit.int .i64 (r k)).wf=true))(hn:n<=64)(w:World)(hL:Hid (Lie w a n c f)):
  Calls prog 121 #[.agg T] w fun e w'=>∃B D,e=.returned (.map (some B))/\w'.ownsMap prog 3 (plainElem (H:=Unit) prog 3) B (32+n) D/\Cnts D (jn r f) (32+n)/\Below w.heap.size w w':=by
 have hmm:∀(x:Int) (w:World),(Instr.makeMap 179 (some (.int .i64 x))).run prog w=.ok (.map (some w.heap.size)) (w.alloc (.map #[] 0)):=fun x w=>by
  simp only[Instr.makeMap,Sem.run_bind,run_underlying underlying179,Result.andThen_ok]
  rfl
 go_enter func121,ntmps121
 go_wp2
 have hB0:Below w.heap.size w ((w.alloc (Obj.cells T 54)).alloc (Obj.map #[] 0)):=((Below.refl _ _).alloc (Nat.le_refl _) _).alloc (by simp) _
 go_loopw [12] (fun i wr=>∃k:Nat,k<=32/\i=.int .i64 k/\∃D,wr.ownsMap prog 3 (plainElem (H:=Unit) prog 3) (w.heap.size+1) k D/\Cnts D (jn r f) k/\wr.heap[w.heap.size]?=some (.cells T 54 (0,0))/\Below w.heap.size w wr)
  (fun i _=>32-(intOf i).toNat)
 case atStart=>exact⟨0,by omega,rfl,_,by simpa using World.ownsMap_made (w.alloc (Obj.cells T 54)) _ _ _,zho _,heap_alloc2_old _ _ _,hB0⟩
 case round=>
  obtain⟨k,hk,rfl,D,hown,hcn,hrow,hnx⟩:=hrel
  by_cases hlt:k<32
  ·have hcx:wr.cell? ⟨w.heap.size,1+k,none⟩=some (.int .i64 (r k)):=(cell_of_row wr w.heap.size _ _ _ _ hrow).trans (by rw[hT.out];exact zfF _ _ _ _ hlt)
   have hkey:keyOf prog 3 (.int .i64 (r k))=some (.int .i64 (r k)):=keyOf_int_mk underlying3 (hR.out k hlt)
   have HO:Hid (Below w.heap.size w wr):=hnx
   have HR0:Hid (wr.heap[w.heap.size]?=some (.cells T 54 (0,0))):=hrow
   clear hnx hrow
   go_wp2_with(first
    |(at_lookup;refine wpList_lookup_own_int _ rfl _ _ 179 rfl 3 3 .i64 law3 underlying179 underlying3 (zjE _) (w.heap.size+1) k _ rfl hown _ _ rfl hkey ?_;intro c hat hwc)
    |(at_mapUpdate;refine wpList_mapUpdate_own _ rfl _ _ _ 179 rfl 3 3 law3 underlying179 _ (w.heap.size+1) k _ rfl hown (by unfold maxLen;omega) _ _ _ rfl rfl hkey _ [] (plainElem_int underlying3 (wrap64_wf _)) ?_;intro w1 hown1 hgrow1)
    |go_in)
   go_roundw
   case rel=>exact⟨k+1,by omega,by go_num,_,hown1,hcn.next (jn_r hlt).symm hat (by omega),(hgrow1.block _ (zr HR0.out) (by simp)).trans HR0.out,HO.out.grown hgrow1 HO.out.size (fun j hj=>by cases hj;omega)⟩
   case measure=>simp[intOf];omega
  ·have:k=32:=by omega
   subst this
   rw[show((32:Nat):Int)=32 from rfl]
   have hcF:wr.cell? ⟨w.heap.size,33,none⟩=some (.slice a n c):=(cell_of_row wr w.heap.size _ _ _ _ hrow).trans hF
   go_wp2
   have HO:Hid (Below w.heap.size w wr):=hnx
   clear hnx hrow hcF
   go_loopw [26] (fun i wr=>∃k:Nat,k<=n/\i=.int .i64 k/\∃D,wr.ownsMap prog 3 (plainElem (H:=Unit) prog 3) (w.heap.size+1) (32+k) D/\Cnts D (jn r f) (32+k)/\Below w.heap.size w wr)
    (fun i _=>n-(intOf i).toNat)
   case atStart=>exact⟨0,by omega,rfl,_,hown,hcn,HO.out⟩
   case round=>
    obtain⟨k,hk,rfl,D,hown,hcn,hnx⟩:=hrel
    by_cases hlt:k<n
    ·obtain⟨b,o,rfl,hb,hc⟩:=hL.out.sure (by omega)
     have hcx:wr.cell? ⟨b,o+k,none⟩=some (.int .i64 (f k)):=(hnx.cell (p:=⟨b,o+k,none⟩) hb).trans (hc k hlt)
     have hkey:keyOf prog 3 (.int .i64 (f k))=some (.int .i64 (f k)):=keyOf_int_mk underlying3 (hL.out.wf k hlt)
     have HO:Hid (Below w.heap.size w wr):=hnx
     clear hnx hc
     go_wp2_with(first
      |(at_lookup;refine wpList_lookup_own_int _ rfl _ _ 179 rfl 3 3 .i64 law3 underlying179 underlying3 (zjE _) (w.heap.size+1) (32+k) _ rfl hown _ _ rfl hkey ?_;intro c hat hwc)
      |(at_mapUpdate;refine wpList_mapUpdate_own _ rfl _ _ _ 179 rfl 3 3 law3 underlying179 _ (w.heap.size+1) (32+k) _ rfl hown (by unfold maxLen;omega) _ _ _ rfl rfl hkey _ [] (plainElem_int underlying3 (wrap64_wf _)) ?_;intro w1 hown1 hgrow1)
      |go_in)
     go_roundw
     case rel=>exact⟨k+1,by omega,by go_num,_,hown1,hcn.next (jn_f k).symm hat (by omega),HO.out.grown hgrow1 HO.out.size (fun j hj=>by cases hj;omega)⟩
     case measure=>simp[intOf];omega
    ·have:k=n:=by omega
     subst this
     go_wp2
     go_ret
     exact⟨_,_,rfl,hown,hcn,hnx⟩
abbrev Rg(r:Nat->Int):Prop:=∀k,k<32->(Lit.int .i64 (r k)).wf=true
theorem zw{P:Program}{ops:Array Oper}{rest:List Oper}{o:Oper}{a:Act}{w:World}{Q:Exit->Act->World->Prop}(hw:Region.wanted o (yielded ops a.tmps)=true)(ty:TypeId)(x:Operand)(ho:o.op=.load ty x)
  (g:Nat) (hx:a.eval x=.pointer (some ⟨g,0,none⟩)) (t:TypeId) (cs:Array Value) (fr:Nat×Nat) (d:TypeDesc) (hg:w.heap[g]?=some (.cells cs t fr))
  (hu:P.underlying ty=some d) (hd:(match d with|.struct _|.array _ _=>true|_=>false)=true) (hi:(P.info? ty).map (·.size)=some cs.size)
  (h:wpList P ops Q rest (a.put o.dst (.agg cs)) w):wpList P ops Q (o::rest) a w:=by
 unfold wpList
 rw[if_pos hw]
 exact Or.inl (wp_load_row ty x ho g hx t cs fr d hg hu hd hi h)
theorem vg{H:Type}{P:Program}(w:World){ops:Array Oper}{rest:List Oper}{o:Oper}{a:Act}{Q:Exit->Act->World->Prop}
  (hg:Region.wanted o (yielded ops a.tmps)=true) (m x:Operand) (t:TypeId) (hop:o.op=Op.lookup t m x false)
  (k e:TypeId) (q:IntKind) (K:Keyed P k) (ht:P.underlying t=some (.map k e)) (he:P.underlying e=some (.int q)) (hz:(zeroValue e).run P w=.ok (.int q 0) w) (b n:Nat) (D:DataW H)
  (hm:a.eval m=.map (some b)) (hown:w.ownsMap P k (plainElem P e) b n D) (key:Value) (kl:Lit) (hx:a.eval x=key) (hkey:keyOf P k key=some kl)
  (hK:∀c:Int,D.atKey kl (.lit (.int q 0))=.lit (.int q c)->(Lit.int q c).wf=true->wpList P ops Q rest (a.put o.dst (.int q c)) w):
  wpList P ops Q (o::rest) a w:=by
 unfold wpList
 rw[if_pos hg]
 left
 obtain⟨c,hrun,hat,hwc⟩:=hown.lookup_int K ht he hz hkey
 unfold Oper.wp
 simp[execOp,hop,hm,hx,hrun,Result.andThen]
 exact hK c hat hwc
theorem zem:(prog.info? 54).map (·.size)=some 34:=by kernel_rfl
theorem qI{T:Array Value}{P:Int}{r:Nat->Int}{v:Value}(h:T=mcs P r v):(prog.info? 54).map (·.size)=some T.size:=by rw[zem,h];rfl
theorem heap_alloc_new(w:World)(o:Obj):(w.alloc o).heap[w.heap.size]?=some o:=by
 show(w.heap.push o)[w.heap.size]?=some o
 simp
theorem zba(T:Array Value)(P:Int)(r f:Nat->Int)(a:Option Addr)(n c:Nat)(b:Bool)(hT:Hid (T=mcs P r (.slice a n c)))(hb:Hid (b=true↔MayBe P n r f))
  (h0:T[0]?=some (.int .i64 P)) (hF:T[33]?=some (.slice a n c)) (hR:Hid (Rg r)) (hn:n<=140737488355328) (w:World) (hL:Hid (Lie w a n c f)):
  Calls prog 88 #[.agg T] w fun e w'=>e=.returned (.bool b)/\Below w.heap.size w w':=by
 have C1:=vf P
 by_cases hp:33<=P/\P<=96
 ·rw[decide_eq_true hp]at C1
  by_cases hm:(32+n:Int)<=P
  ·have C2:=fun w=>zci T P r f a n c hT hF hR (by omega) w
   have HI:Hid ((prog.info? 54).map (·.size)=some T.size):=qI hT.out
   go_enter func88,ntmps88
   go_upto_region 1 with fail
   generalize hW:w.alloc (Obj.cells T 54)=W
   have HR0:Hid (W.heap[w.heap.size]?=some (.cells T 54 (0,0))):=by rw[<-hW];show _=_;exact heap_alloc_new _ _
   have HB0:Hid (Below w.heap.size w W):=by rw[<-hW];exact(Below.refl _ _).alloc (Nat.le_refl _) _
   have c0:W.cell? ⟨w.heap.size,0,none⟩=some (.int .i64 P):=(cell_of_row W w.heap.size _ _ _ _ HR0.out).trans h0
   have c33:W.cell? ⟨w.heap.size,33,none⟩=some (.slice a n c):=(cell_of_row W w.heap.size _ _ _ _ HR0.out).trans hF
   clear hW
   go_wp2_with fail
   refine(C1 _).mono ?_
   rintro e w' ⟨rfl,rfl⟩
   go_wp2_with(refine wpList_load_row rfl 54 _ rfl _ rfl 54 _ (0,0) _ HR0.out underlying54 rfl HI.out ?_)
   refine(C2 _ (hL.out.below (Nat.le_refl _) HB0.out)).mono ?_
   rintro e W1 ⟨B,D,rfl,hown,hcn,hk⟩
   have c0':W1.cell? ⟨w.heap.size,0,none⟩=some (.int .i64 P):=(hk.cell (p:=⟨w.heap.size,0,none⟩) (zr HR0.out)).trans c0
   have HB1:Hid (Below w.heap.size w W1):=HB0.out.trans (hk.mono HB0.out.size)
   clear hk HR0 HB0 c0 c33
   go_wp2_with fail
   have hfin:(32+(n:Int)-(sm (o1 (jn r f) (32+n)) P.toNat:Nat)=0)↔b=true:=by
    rw[hb.out]
    constructor
    ·intro h
     exact⟨hp.1,hp.2,(za9 _ _ _).1 ⟨by omega,by omega⟩⟩
    ·intro h
     have:=((za9 _ _ _).2 h.all).2
     omega
   go_loopw [3,24] (fun v i wr=>∃k:Nat,∃m:Int,k<=P.toNat/\i=.int .i64 k/\v=.int .i64 m/\m=32+(n:Int)-(sm (o1 (jn r f) (32+n)) k:Nat)/\wr=W1)
    (fun _ i _=>P.toNat-(intOf i).toNat)
   case atStart=>exact⟨0,_,by omega,rfl,rfl,by simp[sm],rfl⟩
   case round=>
    obtain⟨k,m,hk,rfl,rfl,hm,rfl⟩:=hrel
    have hs:sm (o1 (jn r f) (32+n)) k<=k:=zhl k (fun i hi=>(show o1 (jn r f) (32+n) i<=1 by unfold o1;split<;>omega))
    have m0:-100<=m:=by omega
    have m1:m<=1000:=by omega
    by_cases hlt:k<P.toNat
    ·have hlt':(k:Int)<P:=by omega
     have hkey:keyOf prog 3 (.int .i64 (k:Int))=some (.int .i64 (k:Int)):=keyOf_int_mk underlying3 (WalkArith.wf_i64 (by omega))
     have hstep:sm (o1 (jn r f) (32+n)) (k+1)=sm (o1 (jn r f) (32+n)) k+o1 (jn r f) (32+n) k:=rfl
     go_wp2_with(at_lookup;refine wpList_lookup_own_int _ rfl _ _ 179 rfl 3 3 .i64 law3 underlying179 underlying3 (zjE _) B (32+n) _ rfl hown _ _ rfl hkey ?_;intro q hat hwc)
     all_goals have hq:=hcn.num hat
     all_goals have ho:(cn (jn r f) (k:Int) (32+n)=1/\o1 (jn r f) (32+n) k=1)\/(cn (jn r f) (k:Int) (32+n)≠1/\o1 (jn r f) (32+n) k=0):=by unfold o1;split<;>simp_all
     all_goals refine⟨⟨k+1,_,by omega,by go_num,rfl,?_,trivial⟩,by simp[intOf];omega⟩
     all_goals rw[hstep]
     all_goals first|(have h1:q=1:=by simpa using(by assumption:(q==1)=true))|(have h1:q≠1:=by simpa using(by assumption:(q==1)=false))
     all_goals omega
    ·have:k=P.toNat:=by omega
     subst this
     have hlt':¬(((P.toNat:Nat):Int)<P):=by omega
     go_wp2
     go_ret
     refine⟨congrArg (fun x=>Ending.returned (Value.bool x)) (?_:_=b),HB1.out⟩
     rw[Bool.eq_iff_iff,<-hfin]
     simp
  ·have hbf:b=false:=by
    cases b
    ·rfl
    ·have:=(hb.out.1 rfl).few;omega
   subst hbf
   go_enter func88,ntmps88
   go_wp2_with fail
   refine(C1 _).mono ?_
   rintro e w' ⟨rfl,rfl⟩
   go_wp2_with fail
   go_ret
   exact⟨rfl,by first|exact Below.refl _ _|exact(Below.refl _ _).alloc (Nat.le_refl _) _⟩
 ·have hbf:b=false:=by
   cases b
   ·rfl
   ·have:=hb.out.1 rfl
    exact absurd ⟨this.low,this.high⟩ hp
  subst hbf
  rw[decide_eq_false hp]at C1
  go_enter func88,ntmps88
  go_wp2_with fail
  refine(C1 _).mono ?_
  rintro e w' ⟨rfl,rfl⟩
  go_wp2_with fail
  go_ret
  exact⟨rfl,by first|exact Below.refl _ _|exact(Below.refl _ _).alloc (Nat.le_refl _) _⟩
theorem zcj(T:Array Value)(P:Int)(r f:Nat->Int)(a:Option Addr)(n c:Nat)(x:Int)(b:Bool)(hT:Hid (T=mcs P r (.slice a n c)))(hb:Hid (b=true↔Idle P n r f x))
  (h0:T[0]?=some (.int .i64 P)) (hF:T[33]?=some (.slice a n c)) (hR:Hid (Rg r)) (hn:n<=64) (hP:P<=96) (w:World) (hL:Hid (Lie w a n c f)):
  Calls prog 89 #[.agg T,.int .i64 x] w fun e w'=>e=.returned (.bool b)/\Below w.heap.size w w':=by
 have C2:=fun w=>zci T P r f a n c hT hF hR hn w
 have HI:Hid ((prog.info? 54).map (·.size)=some T.size):=qI hT.out
 by_cases hp:0<=x/\x<P
 ·obtain⟨x0,x1⟩:=hp
  go_enter func89,ntmps89
  go_upto_region 1 with fail
  generalize hW:w.alloc (Obj.cells T 54)=W
  have HR0:Hid (W.heap[w.heap.size]?=some (.cells T 54 (0,0))):=by rw[<-hW];show _=_;exact heap_alloc_new _ _
  have HB0:Hid (Below w.heap.size w W):=by rw[<-hW];exact(Below.refl _ _).alloc (Nat.le_refl _) _
  have c0:W.cell? ⟨w.heap.size,0,none⟩=some (.int .i64 P):=(cell_of_row W w.heap.size _ _ _ _ HR0.out).trans h0
  have c33:W.cell? ⟨w.heap.size,33,none⟩=some (.slice a n c):=(cell_of_row W w.heap.size _ _ _ _ HR0.out).trans hF
  clear hW
  go_wp2_with(refine zw (by rfl) 54 _ rfl _ rfl 54 _ (0,0) _ HR0.out underlying54 rfl HI.out ?_)
  refine(C2 _ (hL.out.below (Nat.le_refl _) HB0.out)).mono ?_
  rintro e W1 ⟨B,D,rfl,hown,hcn,hk⟩
  have HB1:Hid (Below w.heap.size w W1):=HB0.out.trans (hk.mono HB0.out.size)
  clear hk HR0 HB0 c0 c33
  have hkey:keyOf prog 3 (.int .i64 x)=some (.int .i64 x):=keyOf_int_mk underlying3 (WalkArith.wf_i64 (by omega))
  go_wp2_with(at_lookup;refine vg _ (by rfl) _ _ 179 rfl 3 3 .i64 law3 underlying179 underlying3 (zjE _) B (32+n) _ rfl hown _ _ rfl hkey ?_;intro q hat hwc)
  have hq:=hcn.num hat
  go_ret
  refine⟨congrArg (fun x=>Ending.returned (Value.bool x)) (?_:_=b),HB1.out⟩
  rw[Bool.eq_iff_iff,hb.out]
  constructor
  ·intro h
   exact⟨x0,x1,by simp at h;omega⟩
  ·intro h
   have:=h.no
   simp;omega
 ·have hbf:b=false:=by
   cases b
   ·rfl
   ·have:=hb.out.1 rfl
    exact absurd ⟨this.lo,this.hi⟩ hp
  subst hbf
  by_cases x0:0<=x
  ·have x1:decide (x<P)=false:=by simp;omega
   go_enter func89,ntmps89
   go_upto_region 1 with fail
   generalize hW:w.alloc (Obj.cells T 54)=W
   have HR0:Hid (W.heap[w.heap.size]?=some (.cells T 54 (0,0))):=by rw[<-hW];show _=_;exact heap_alloc_new _ _
   have HB0:Hid (Below w.heap.size w W):=by rw[<-hW];exact(Below.refl _ _).alloc (Nat.le_refl _) _
   have c0:W.cell? ⟨w.heap.size,0,none⟩=some (.int .i64 P):=(cell_of_row W w.heap.size _ _ _ _ HR0.out).trans h0
   clear hW
   go_wp2_with(refine wpList_skip (by rfl) ?_)
   go_ret
   exact⟨rfl,HB0.out⟩
  ·go_enter func89,ntmps89
   go_upto_region 1 with fail
   generalize hW:w.alloc (Obj.cells T 54)=W
   have HR0:Hid (W.heap[w.heap.size]?=some (.cells T 54 (0,0))):=by rw[<-hW];show _=_;exact heap_alloc_new _ _
   have HB0:Hid (Below w.heap.size w W):=by rw[<-hW];exact(Below.refl _ _).alloc (Nat.le_refl _) _
   have c0:W.cell? ⟨w.heap.size,0,none⟩=some (.int .i64 P):=(cell_of_row W w.heap.size _ _ _ _ HR0.out).trans h0
   clear hW
   go_wp2_with(refine wpList_skip (by rfl) ?_)
   go_ret
   exact⟨rfl,HB0.out⟩
theorem zjF:(prog.info? 3).map (fun i=>(i.zero,i.size,i.bytes))=some (some (.int .i64 0),1,8):=by kernel_rfl
theorem vh(b o n c:Nat)(f:Nat->Int)(hn:n<=1000)(w:World)(hL:Hid (Lie w (some ⟨b,o,none⟩) n c f)):
  Calls prog 147 #[.slice (some ⟨b,o,none⟩) n c] w fun e w'=>(∃a' c',e=.returned (.slice a' n c')/\Lie w' a' n c' f/\Far w.heap.size a')/\Below w.heap.size w w':=by
 obtain⟨i0,hi,hz0,hz1,hz2⟩:=info_parts zjF
 have q22:∀(w:World) (a:Option Addr) (n c n' c':Nat),(binOp .eql 29 (.slice a n c) (.slice none n' c')).run prog w=.ok (.bool a.isNone) w:=fun w a n c n' c'=>Lib.run_eql_slice_nil w _ _ a n c n' c' underlying29
 go_enter func147,ntmps147
 go_wp2_with(at_builtin;refine qu _ rfl _ _ 29 rfl w.heap.size 3 i0 underlying29 hi hz0 hz1 hz2 _ 0 f rfl (World.ownsRow_made w #[] 0 (Nat.le_refl _) (Nat.zero_le _) rfl) _ n c f rfl (hL.out.below (Nat.le_refl _) ((Below.refl _ _).alloc (Nat.le_refl _) _)) (by omega) (by simp) ?_)
 intro v' w1 hown hgrow
 go_wp2
 go_ret
 have hown':w1.ownsRow w.heap.size 3 1 v' n (row f n):=by
  rw[ve (f':=cat f 0 f) (fun i _=>by simp[cat]),<-Nat.zero_add n]
  simpa using hown
 obtain⟨a',c',rfl,a3⟩:=yc hown' hL.out.wf
 exact⟨⟨a',c',rfl,a3⟩,((Below.refl _ w).alloc (Nat.le_refl _) _).grown hgrow (by simp) (by intro k hk;simp[Value.ownBlock]at hk;omega)⟩
theorem zhp(N:Nat)(h0:0<N)(hN:N<=1000)(w:World)(f:Nat->Int):
  Calls prog 122 #[.slice none 0 0,.int .i64 N] w fun e w'=>(∃v',e=.returned v'/\w'.ownsRow w.heap.size 3 1 v' 0 (row f 0))/\Below w.heap.size w w':=by
 obtain⟨i0,hi,hz0,hz1,hz2⟩:=info_parts zjF
 go_enter func122,ntmps122
 go_wp2
 all_goals have e8:t3.bytes=8:=rfl
 all_goals have e9:Builtin.nextslicecap N 0*t3.bytes<=281474976710656:=growslice_fits h0 (by rw[e8];omega)
 all_goals try(exfalso;first|omega|(simp only[e8]at*;omega))
 go_ret
 have hge:=grownCap_ge w N 0 3
 have hle:=grownCap_le_maxLen w N 0 3 (by unfold maxLen;omega)
 refine⟨⟨_,rfl,World.ownsRow_made w _ _ (Nat.le_refl _) hle ?_⟩,(((Below.refl _ _).alloc (Nat.le_refl _) _).drew)⟩
 simp only[Array.size_append,size_zeroCells]
 show N*1+(grownCap w N 0 3-N)*1=grownCap w N 0 3*1
 omega
theorem vi(q:Nat)(a1 a2:Option Addr)(n1 c1 n2 c2:Nat)(f1 f2:Nat->Int)(h0:0<n1+n2)(hn:n1+n2<=1000)(w:World)
  (hq:q<w.heap.size) (k0:w.cell? ⟨q,0,none⟩=some (.slice a1 n1 c1)) (k1:w.cell? ⟨q,1,none⟩=some (.slice a2 n2 c2)) (hL1:Hid (Lie w a1 n1 c1 f1)) (hL2:Hid (Lie w a2 n2 c2 f2)):
  Calls prog 90 #[.slice (some ⟨q,0,none⟩) 2 2] w fun e w'=>(∃a' c',e=.returned (.slice a' (n1+n2) c')/\Lie w' a' (n1+n2) c' (cat f1 n1 f2)/\Far w.heap.size a')/\Below w.heap.size w w':=by
 obtain⟨i0,hi,hz0,hz1,hz2⟩:=info_parts zjF
 have C:=fun w=>zhp (n1+n2) h0 hn w f1
 simp only[Int.natCast_add]at C
 go_enter func90,ntmps90
 go_wp2_with fail
 refine wp_loop_rounds 3 ?_
 rw[rounds_succ]
 go_wp2_with fail
 rw[rounds_succ]
 go_wp2_with fail
 rw[rounds_succ]
 go_wp2_with fail
 refine(C _).mono ?_
 rintro e W1 ⟨⟨v,rfl,hown⟩,hk⟩
 have j0:W1.cell? ⟨q,0,none⟩=some (.slice a1 n1 c1):=(hk.cell (p:=⟨q,0,none⟩) hq).trans k0
 have j1:W1.cell? ⟨q,1,none⟩=some (.slice a2 n2 c2):=(hk.cell (p:=⟨q,1,none⟩) hq).trans k1
 have HO:Hid (W1.ownsRow w.heap.size 3 1 v 0 (row f1 0)):=hown
 have HK:Hid (Below w.heap.size w W1):=hk
 clear hown hk k0 k1 C
 go_wp2_with fail
 refine wp_loop_rounds 3 ?_
 rw[rounds_succ]
 go_wp2_with(at_builtin;refine qu _ rfl _ _ 29 rfl w.heap.size 3 i0 underlying29 hi hz0 hz1 hz2 _ 0 f1 rfl HO.out _ n1 c1 f1 rfl (hL1.out.below (Nat.le_refl _) HK.out) (by omega) HK.out.size ?_;intro v1 w1 hown1 hgrow1)
 have m1:w1.cell? ⟨q,1,none⟩=some (.slice a2 n2 c2):=hgrow1.cell j1 (by intro e;have h:w.heap.size<=q:=(HO.out.lt _ e.symm).1;omega)
 have HO1:Hid (w1.ownsRow w.heap.size 3 1 v1 n1 (row f1 n1)):=by
  show w1.ownsRow _ _ _ _ _ _
  rw[ve (f':=cat f1 0 f1) (fun i _=>by simp[cat]),<-Nat.zero_add n1]
  simpa using hown1
 have HK1:Hid (Below w.heap.size w w1):=HK.out.grown hgrow1 HK.out.size (fun k hk=>(HO.out.lt k hk).1)
 clear hown1 hgrow1 HO HK j0 j1
 rw[rounds_succ]
 go_wp2_with(at_builtin;refine qu _ rfl _ _ 29 rfl w.heap.size 3 i0 underlying29 hi hz0 hz1 hz2 _ n1 f1 rfl HO1.out _ n2 c2 f2 rfl (hL2.out.below (Nat.le_refl _) HK1.out) (by omega) HK1.out.size ?_;intro v2 w2 hown2 hgrow2)
 have HK2:Hid (Below w.heap.size w w2):=HK1.out.grown hgrow2 HK1.out.size (fun k hk=>(HO1.out.lt k hk).1)
 have HO2:Hid (w2.ownsRow w.heap.size 3 1 v2 (n1+n2) (row (cat f1 n1 f2) (n1+n2))):=hown2
 clear hown2 hgrow2
 rw[rounds_succ]
 go_wp2_with fail
 go_ret
 obtain⟨a',c',rfl,a3⟩:=yc HO2.out (fun i hi=>by
  unfold cat
  split
  ·exact hL1.out.wf i (by omega)
  ·exact hL2.out.wf _ (by omega))
 exact⟨⟨a',c',rfl,a3⟩,HK2.out⟩
end Go.Proofs.YtpiohehijkpghabGreatDoor.Re
