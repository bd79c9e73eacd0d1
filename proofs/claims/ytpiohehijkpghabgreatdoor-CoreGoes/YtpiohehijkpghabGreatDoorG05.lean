/- A core as plain numbers and lists: what each of its parts does. Nothing of the program is named here. -/
import Derived.WalkKit
import Derived.Test.YtpiohehijkpghabGreatDoorG04
import Derived.Test.YtpiohehijkpghabGreatDoorG03
namespace Go.Proofs.YtpiohehijkpghabGreatDoor.Re.Hy
open Go.RowKit
set_option linter.unusedVariables false
def cn (g:Nat→Int) (x:Int):Nat→Nat
 |0=>0
 |k+1=>cn g x k+(if g k=x then 1 else 0)
def sm (h:Nat→Nat):Nat→Nat
 |0=>0
 |k+1=>sm h k+h k
def jn (r f:Nat→Int) (i:Nat):Int:=if i<32 then r i else f (i-32)
theorem jn_r {r f:Nat→Int} {i:Nat} (h:i<32):jn r f i=r i:=if_pos h
theorem jn_f {r f:Nat→Int} (i:Nat):jn r f (32+i)=f i:=by
 unfold jn
 rw[if_neg (by omega),show 32+i-32=i by omega]
theorem cn_le (g:Nat→Int) (x:Int):∀n,cn g x n≤n
 |0=>Nat.le_refl _
 |n+1=>by
  have:=cn_le g x n
  unfold cn
  split<;>omega
theorem cn_congr {g h:Nat→Int} (x:Int):∀n,(∀i,i<n→g i=h i)→cn g x n=cn h x n
 |0,_=>rfl
 |n+1,e=>by
  unfold cn
  rw[cn_congr x n (fun i hi=>e i (by omega)),e n (by omega)]
theorem cn_zero (g:Nat→Int) (x:Int):∀n,cn g x n=0↔∀i,i<n→g i≠x
 |0=>⟨fun _ i h=>absurd h (by omega),fun _=>rfl⟩
 |n+1=>by
  have ih:=cn_zero g x n
  constructor
  ·intro h i hi
   have h':cn g x n+(if g n=x then 1 else 0)=0:=h
   by_cases e:g n=x
   ·rw[if_pos e]at h';omega
   ·rcases(by omega:i<n∨i=n)with q|q
    ·exact ih.1 (by omega) i q
    ·rw[q];exact e
  ·intro h
   show cn g x n+(if g n=x then 1 else 0)=0
   rw[if_neg (h n (by omega)),ih.2 (fun i hi=>h i (by omega))]
theorem cn_one (g:Nat→Int) (Q:Int→Prop):∀n,(∀i,i<n→Q (g i))→((∀x,Q x→cn g x n≤1)↔∀i j,i<n→j<n→g i=g j→i=j)
 |0,_=>⟨fun _ i _ h=>absurd h (by omega),fun _ x _=>by simp[cn]⟩
 |n+1,hQ=>by
  have ih:=cn_one g Q n (fun i hi=>hQ i (by omega))
  constructor
  ·intro h
   have h1:∀x,Q x→cn g x n≤1:=fun x hx=>by
    have:=h x hx
    unfold cn at this
    omega
   have h2:∀i,i<n→g i≠g n:=by
    have h3:=h (g n) (hQ n (by omega))
    unfold cn at h3
    rw[if_pos rfl]at h3
    exact(cn_zero g (g n) n).1 (by omega)
   intro i j hi hj e
   rcases(by omega:i<n∨i=n)with a|a<;>rcases(by omega:j<n∨j=n)with b|b
   ·exact(ih.1 h1) i j a b e
   ·subst b;exact absurd e (h2 i a)
   ·subst a;exact absurd e.symm (h2 j b)
   ·omega
  ·intro h x hx
   have h1:=ih.2 (fun i j hi hj e=>h i j (by omega) (by omega) e) x hx
   unfold cn
   by_cases e:g n=x
   ·have:cn g x n=0:=(cn_zero g x n).2 fun i hi e2=>by
     have:=h i n (by omega) (by omega) (by rw[e,e2])
     omega
    rw[if_pos e];omega
   ·rw[if_neg e];omega
theorem sm_congr {a b:Nat→Nat}:∀n,(∀i,i<n→a i=b i)→sm a n=sm b n
 |0,_=>rfl
 |n+1,e=>by
  unfold sm
  rw[sm_congr n (fun i hi=>e i (by omega)),e n (by omega)]
theorem sm_le {a b:Nat→Nat}:∀n,(∀i,i<n→a i≤b i)→sm a n≤sm b n
 |0,_=>Nat.le_refl _
 |n+1,e=>by
  have h1:=sm_le n (fun i hi=>e i (by omega))
  have h2:=e n (by omega)
  unfold sm
  omega
theorem sm_eq {a b:Nat→Nat}:∀n,(∀i,i<n→a i≤b i)→sm a n=sm b n→∀i,i<n→a i=b i
 |0,_,_=>fun i h=>absurd h (by omega)
 |n+1,e,h=>fun i hi=>by
  have h1:=sm_le n (fun i hi=>e i (by omega))
  have h2:=e n (by omega)
  unfold sm at h
  rcases(by omega:i<n∨i=n)with q|q
  ·exact sm_eq n (fun i hi=>e i (by omega)) (by omega) i q
  ·subst q;omega
theorem sm_ones {a:Nat→Nat} (n:Nat) (h:∀i,i<n→a i≤1):sm a n≤n:=by
 have:∀n,sm (fun _=>1) n=n:=fun n=>by
  induction n with
  |zero=>rfl
  |succ n ih=>show sm _ n+1=n+1;rw[ih]
 exact Nat.le_trans (sm_le n h) (Nat.le_of_eq (this n))
theorem sm_add (a b:Nat→Nat):∀n,sm (fun i=>a i+b i) n=sm a n+sm b n
 |0=>rfl
 |n+1=>by
  show sm (fun i=>a i+b i) n+(a n+b n)=sm a n+a n+(sm b n+b n)
  rw[sm_add a b n]
  omega
theorem sm_hit (y:Int):∀n:Nat,sm (fun p=>if y=(p:Int)then 1 else 0) n=if 0≤y∧y<n then 1 else 0
 |0=>by simp[sm]
 |n+1=>by
  show sm (fun p=>if y=(p:Int)then 1 else 0) n+(if y=(n:Int)then 1 else 0)=_
  rw[sm_hit y n]
  by_cases e:y=n
  ·rw[if_neg (by omega),if_pos e,if_pos (by omega)]
  ·rw[if_neg e]
   by_cases q:0≤y∧y<n
   ·rw[if_pos q,if_pos (by omega)]
   ·rw[if_neg q,if_neg (by omega)]
theorem sm_cn (g:Nat→Int) (P:Nat):∀N,sm (fun p=>cn g p (N+1)) P=sm (fun p=>cn g p N) P+if 0≤g N∧g N<P then 1 else 0:=fun N=>by
 have:sm (fun p=>cn g p (N+1)) P=sm (fun p=>cn g p N+(if g N=(p:Int)then 1 else 0)) P:=rfl
 rw[this,sm_add,sm_hit]
theorem sm_cn_le (g:Nat→Int) (P:Nat):∀N,sm (fun p=>cn g p N) P≤N
 |0=>by
  have:sm (fun p=>cn g p 0) P≤sm (fun _=>0) P:=sm_le P (fun i _=>Nat.le_refl _)
  have h0:∀n,sm (fun _=>0) n=0:=fun n=>by induction n with
   |zero=>rfl
   |succ n ih=>show sm _ n+0=0;rw[ih]
  rw[h0]at this
  exact this
 |N+1=>by
  rw[sm_cn]
  have:=sm_cn_le g P N
  split<;>omega
theorem sm_cn_all (g:Nat→Int) (P:Nat):∀N,sm (fun p=>cn g p N) P=N↔∀i,i<N→0≤g i∧g i<P
 |0=>⟨fun _ i h=>absurd h (by omega),fun _=>by have:=sm_cn_le g P 0;omega⟩
 |N+1=>by
  have ih:=sm_cn_all g P N
  have hle:=sm_cn_le g P N
  rw[sm_cn]
  constructor
  ·intro h i hi
   by_cases e:0≤g N∧g N<P
   ·rw[if_pos e]at h
    rcases(by omega:i<N∨i=N)with q|q
    ·exact ih.1 (by omega) i q
    ·rw[q];exact e
   ·rw[if_neg e]at h;omega
  ·intro h
   rw[if_pos (h N (by omega)),ih.2 (fun i hi=>h i (by omega))]
structure All (g:Nat→Int) (N P:Nat):Prop where
 rng:∀i,i<N→0≤g i∧g i<P
 inj:∀i j,i<N→j<N→g i=g j→i=j
theorem all_doc (g:Nat→Int) (N P:Nat):((∀p,p<P→cn g (p:Nat) N≤1)∧sm (fun p=>cn g p N) P=N)↔All g N P:=by
 rw[sm_cn_all]
 constructor
 ·rintro⟨h,hr⟩
  refine⟨hr,(cn_one g (fun x=>0≤x∧x<P) N hr).1 fun x hx=>?_⟩
  have:=h x.toNat (by omega)
  rwa [Int.toNat_of_nonneg hx.1]at this
 ·rintro⟨hr,hi⟩
  exact⟨fun p hp=>(cn_one g (fun x=>0≤x∧x<P) N hr).2 hi p ⟨by omega,by omega⟩,hr⟩
def o1 (g:Nat→Int) (N p:Nat):Nat:=if cn g p N=1 then 1 else 0
theorem all_prog (g:Nat→Int) (N P:Nat):(N≤P∧sm (o1 g N) P=N)↔All g N P:=by
 rw[←all_doc]
 have hle:∀p,p<P→o1 g N p≤cn g p N:=fun p _=>by unfold o1;split<;>omega
 constructor
 ·rintro⟨h1,h2⟩
  have a:=sm_le P hle
  have b:=sm_cn_le g P N
  have c:=sm_eq P hle (by omega)
  refine⟨fun p hp=>?_,by omega⟩
  rw[←c p hp]
  unfold o1
  split<;>omega
 ·rintro⟨h1,h2⟩
  have c:∀p,p<P→o1 g N p=cn g p N:=fun p hp=>by
   have:=h1 p hp
   unfold o1
   split<;>omega
  have e:sm (o1 g N) P=N:=(sm_congr P c).trans h2
  refine⟨?_,e⟩
  have:=sm_ones P (fun i hi=>(show o1 g N i≤1 by unfold o1;split<;>omega))
  omega
structure MayBe (P:Int) (n:Nat) (r f:Nat→Int):Prop where
 low:33≤P
 high:P≤96
 all:All (jn r f) (32+n) P.toNat
theorem MayBe.few {P:Int} {n:Nat} {r f:Nat→Int} (h:MayBe P n r f):32+n≤P∧n≤64:=by
 have:=((all_prog _ _ _).2 h.all).1
 have:=h.low
 have:=h.high
 omega
theorem MayBe.mk' {P:Int} {n:Nat} {r f:Nat→Int} (low:33≤P) (high:P≤96) (hr:∀i,i<32→0≤r i∧r i<P) (hf:∀i,i<n→0≤f i∧f i<P)
  (rr:∀i j,i<32→j<32→r i=r j→i=j) (ff:∀i j,i<n→j<n→f i=f j→i=j) (rf:∀i j,i<32→j<n→r i≠f j):MayBe P n r f:=by
 refine⟨low,high,fun i hi=>?_,fun i j hi hj e=>?_⟩
 ·by_cases a:i<32
  ·rw[jn_r a];have:=hr i a;omega
  ·rw[show i=32+(i-32) by omega,jn_f];have:=hf (i-32) (by omega);omega
 ·by_cases a:i<32<;>by_cases b:j<32
  ·rw[jn_r a,jn_r b]at e;exact rr i j a b e
  ·rw[jn_r a,show j=32+(j-32) by omega,jn_f]at e;exact absurd e (rf i _ a (by omega))
  ·rw[jn_r b,show i=32+(i-32) by omega,jn_f]at e;exact absurd e.symm (rf j _ b (by omega))
  ·rw[show i=32+(i-32) by omega,show j=32+(j-32) by omega,jn_f,jn_f]at e
   have:=ff (i-32) (j-32) (by omega) (by omega) e
   omega
def up (f:Nat→Int) (k:Nat) (x:Int) (j:Nat):Int:=if j=k then x else f j
theorem up_at (f:Nat→Int) (k:Nat) (x:Int):up f k x k=x:=if_pos rfl
theorem up_ne {f:Nat→Int} {k:Nat} {x:Int} {j:Nat} (h:j≠k):up f k x j=f j:=if_neg h
theorem up_up (f:Nat→Int) (k:Nat) (x y:Int):up (up f k x) k y=up f k y:=by
 funext j
 unfold up
 split<;>rfl
theorem up_id (f:Nat→Int) (k:Nat):up f k (f k)=f:=by
 funext j
 unfold up
 split
 ·rename_i h;rw[h]
 ·rfl
def tl (f:Nat→Int) (i:Nat):Int:=f (i+1)
def hd (x:Int) (f:Nat→Int) (i:Nat):Int:=if i=0 then x else f (i-1)
def en (f:Nat→Int) (n:Nat) (x:Int) (i:Nat):Int:=if i<n then f i else x
structure Idle (P:Int) (n:Nat) (r f:Nat→Int) (x:Int):Prop where
 lo:0≤x
 hi:x<P
 no:cn (jn r f) x (32+n)=0
theorem Idle.mk' {P:Int} {n:Nat} {r f:Nat→Int} {x:Int} (lo:0≤x) (hi:x<P) (hr:∀i,i<32→r i≠x) (hf:∀i,i<n→f i≠x):Idle P n r f x:=by
 refine⟨lo,hi,(cn_zero _ _ _).2 fun i hi=>?_⟩
 by_cases a:i<32
 ·rw[jn_r a];exact hr i a
 ·rw[show i=32+(i-32) by omega,jn_f];exact hf _ (by omega)
abbrev mcs (P:Int) (r:Nat→Int) (v:Value):Array Value:=#[.int .i64 P,.int .i64 (r 0),.int .i64 (r 1),.int .i64 (r 2),.int .i64 (r 3),.int .i64 (r 4),.int .i64 (r 5),.int .i64 (r 6),.int .i64 (r 7),.int .i64 (r 8),.int .i64 (r 9),.int .i64 (r 10),.int .i64 (r 11),.int .i64 (r 12),.int .i64 (r 13),.int .i64 (r 14),.int .i64 (r 15),.int .i64 (r 16),.int .i64 (r 17),.int .i64 (r 18),.int .i64 (r 19),.int .i64 (r 20),.int .i64 (r 21),.int .i64 (r 22),.int .i64 (r 23),.int .i64 (r 24),.int .i64 (r 25),.int .i64 (r 26),.int .i64 (r 27),.int .i64 (r 28),.int .i64 (r 29),.int .i64 (r 30),.int .i64 (r 31),v]
theorem mcs_R (P:Int) (r:Nat→Int) (v:Value) (k:Nat) (h:k<32):(mcs P r v)[1+k]?=some (.int .i64 (r k)):=
 match k,h with
 |0,_=>rfl
 |1,_=>rfl
 |2,_=>rfl
 |3,_=>rfl
 |4,_=>rfl
 |5,_=>rfl
 |6,_=>rfl
 |7,_=>rfl
 |8,_=>rfl
 |9,_=>rfl
 |10,_=>rfl
 |11,_=>rfl
 |12,_=>rfl
 |13,_=>rfl
 |14,_=>rfl
 |15,_=>rfl
 |16,_=>rfl
 |17,_=>rfl
 |18,_=>rfl
 |19,_=>rfl
 |20,_=>rfl
 |21,_=>rfl
 |22,_=>rfl
 |23,_=>rfl
 |24,_=>rfl
 |25,_=>rfl
 |26,_=>rfl
 |27,_=>rfl
 |28,_=>rfl
 |29,_=>rfl
 |30,_=>rfl
 |31,_=>rfl
 |n+32,h=>absurd h (by omega)
theorem set_R (P:Int) (r:Nat→Int) (v:Value) (x:Int) (k:Nat) (h:k<32):(mcs P r v).setIfInBounds (1+k) (.int .i64 x)=mcs P (up r k x) v:=
 match k,h with
 |0,_=>rfl
 |1,_=>rfl
 |2,_=>rfl
 |3,_=>rfl
 |4,_=>rfl
 |5,_=>rfl
 |6,_=>rfl
 |7,_=>rfl
 |8,_=>rfl
 |9,_=>rfl
 |10,_=>rfl
 |11,_=>rfl
 |12,_=>rfl
 |13,_=>rfl
 |14,_=>rfl
 |15,_=>rfl
 |16,_=>rfl
 |17,_=>rfl
 |18,_=>rfl
 |19,_=>rfl
 |20,_=>rfl
 |21,_=>rfl
 |22,_=>rfl
 |23,_=>rfl
 |24,_=>rfl
 |25,_=>rfl
 |26,_=>rfl
 |27,_=>rfl
 |28,_=>rfl
 |29,_=>rfl
 |30,_=>rfl
 |31,_=>rfl
 |n+32,h=>absurd h (by omega)
theorem set_F (P:Int) (r:Nat→Int) (v u:Value):(mcs P r v).setIfInBounds 33 u=mcs P r u:=rfl
theorem set_P (P Q:Int) (r:Nat→Int) (v:Value):(mcs P r v).setIfInBounds 0 (.int .i64 Q)=mcs Q r v:=rfl
theorem mcs_size (P:Int) (r:Nat→Int) (v:Value):(mcs P r v).size=34:=rfl
end Go.Proofs.YtpiohehijkpghabGreatDoor.Re.Hy
namespace Go.Proofs.YtpiohehijkpghabGreatDoor.Gu.Hy
open Go.RowKit
set_option linter.unusedVariables false
structure Tb where
 L:Nat→Int
 G:Nat→Int
 P:Nat→Int
 A:Nat→Int
 S:Nat→Int
 U:Nat→Int
abbrev tcs (t:Tb):Array Value:=#[.int .i64 (t.L 0),.int .u32 (t.G 0),.int .i64 (t.L 1),.int .u32 (t.G 1),.int .i64 (t.L 2),.int .u32 (t.G 2),.int .i64 (t.L 3),.int .u32 (t.G 3),.int .i64 (t.L 4),.int .u32 (t.G 4),.int .i64 (t.L 5),.int .u32 (t.G 5),.int .i64 (t.L 6),.int .u32 (t.G 6),.int .i64 (t.L 7),.int .u32 (t.G 7),.int .i64 (t.L 8),.int .u32 (t.G 8),.int .i64 (t.L 9),.int .u32 (t.G 9),.int .i64 (t.L 10),.int .u32 (t.G 10),.int .i64 (t.L 11),.int .u32 (t.G 11),.int .i64 (t.L 12),.int .u32 (t.G 12),.int .i64 (t.L 13),.int .u32 (t.G 13),.int .i64 (t.L 14),.int .u32 (t.G 14),.int .i64 (t.L 15),.int .u32 (t.G 15),.int .u32 (t.P 0),.int .u32 (t.A 0),.int .u32 (t.S 0),.int .i64 (t.U 0),.int .u32 (t.P 1),.int .u32 (t.A 1),.int .u32 (t.S 1),.int .i64 (t.U 1),.int .u32 (t.P 2),.int .u32 (t.A 2),.int .u32 (t.S 2),.int .i64 (t.U 2),.int .u32 (t.P 3),.int .u32 (t.A 3),.int .u32 (t.S 3),.int .i64 (t.U 3),.int .u32 (t.P 4),.int .u32 (t.A 4),.int .u32 (t.S 4),.int .i64 (t.U 4),.int .u32 (t.P 5),.int .u32 (t.A 5),.int .u32 (t.S 5),.int .i64 (t.U 5),.int .u32 (t.P 6),.int .u32 (t.A 6),.int .u32 (t.S 6),.int .i64 (t.U 6),.int .u32 (t.P 7),.int .u32 (t.A 7),.int .u32 (t.S 7),.int .i64 (t.U 7)]
def bnd (n:Int):Int:=if n<0 then 0 else if 3<n then 3 else n
def up (f:Nat→Int) (k:Nat) (x:Int) (j:Nat):Int:=if j=k then x else f j
theorem up_at (f:Nat→Int) (k:Nat) (x:Int):up f k x k=x:=if_pos rfl
theorem up_up (f:Nat→Int) (k:Nat) (x y:Int):up (up f k x) k y=up f k y:=by
 funext j
 unfold up
 split<;>rfl
theorem up_id (f:Nat→Int) (k:Nat):up f k (f k)=f:=by
 funext j
 unfold up
 split
 ·rename_i h;rw[h]
 ·rfl
theorem tcs_L (t:Tb) (k:Nat) (h:k<16):(tcs t)[k*2]?=some (.int .i64 (t.L k)):=
 match k,h with
 |0,_=>rfl
 |1,_=>rfl
 |2,_=>rfl
 |3,_=>rfl
 |4,_=>rfl
 |5,_=>rfl
 |6,_=>rfl
 |7,_=>rfl
 |8,_=>rfl
 |9,_=>rfl
 |10,_=>rfl
 |11,_=>rfl
 |12,_=>rfl
 |13,_=>rfl
 |14,_=>rfl
 |15,_=>rfl
 |n+16,h=>absurd h (by omega)
theorem set_L (t:Tb) (x:Int) (k:Nat) (h:k<16):(tcs t).setIfInBounds (k*2) (.int .i64 x)=tcs {t with L:=up t.L k x}:=
 match k,h with
 |0,_=>rfl
 |1,_=>rfl
 |2,_=>rfl
 |3,_=>rfl
 |4,_=>rfl
 |5,_=>rfl
 |6,_=>rfl
 |7,_=>rfl
 |8,_=>rfl
 |9,_=>rfl
 |10,_=>rfl
 |11,_=>rfl
 |12,_=>rfl
 |13,_=>rfl
 |14,_=>rfl
 |15,_=>rfl
 |n+16,h=>absurd h (by omega)
theorem tcs_G (t:Tb) (k:Nat) (h:k<16):(tcs t)[k*2+1]?=some (.int .u32 (t.G k)):=
 match k,h with
 |0,_=>rfl
 |1,_=>rfl
 |2,_=>rfl
 |3,_=>rfl
 |4,_=>rfl
 |5,_=>rfl
 |6,_=>rfl
 |7,_=>rfl
 |8,_=>rfl
 |9,_=>rfl
 |10,_=>rfl
 |11,_=>rfl
 |12,_=>rfl
 |13,_=>rfl
 |14,_=>rfl
 |15,_=>rfl
 |n+16,h=>absurd h (by omega)
theorem set_G (t:Tb) (x:Int) (k:Nat) (h:k<16):(tcs t).setIfInBounds (k*2+1) (.int .u32 x)=tcs {t with G:=up t.G k x}:=
 match k,h with
 |0,_=>rfl
 |1,_=>rfl
 |2,_=>rfl
 |3,_=>rfl
 |4,_=>rfl
 |5,_=>rfl
 |6,_=>rfl
 |7,_=>rfl
 |8,_=>rfl
 |9,_=>rfl
 |10,_=>rfl
 |11,_=>rfl
 |12,_=>rfl
 |13,_=>rfl
 |14,_=>rfl
 |15,_=>rfl
 |n+16,h=>absurd h (by omega)
theorem tcs_P (t:Tb) (k:Nat) (h:k<8):(tcs t)[32+k*4]?=some (.int .u32 (t.P k)):=
 match k,h with
 |0,_=>rfl
 |1,_=>rfl
 |2,_=>rfl
 |3,_=>rfl
 |4,_=>rfl
 |5,_=>rfl
 |6,_=>rfl
 |7,_=>rfl
 |n+8,h=>absurd h (by omega)
theorem set_P (t:Tb) (x:Int) (k:Nat) (h:k<8):(tcs t).setIfInBounds (32+k*4) (.int .u32 x)=tcs {t with P:=up t.P k x}:=
 match k,h with
 |0,_=>rfl
 |1,_=>rfl
 |2,_=>rfl
 |3,_=>rfl
 |4,_=>rfl
 |5,_=>rfl
 |6,_=>rfl
 |7,_=>rfl
 |n+8,h=>absurd h (by omega)
theorem tcs_A (t:Tb) (k:Nat) (h:k<8):(tcs t)[32+k*4+1]?=some (.int .u32 (t.A k)):=
 match k,h with
 |0,_=>rfl
 |1,_=>rfl
 |2,_=>rfl
 |3,_=>rfl
 |4,_=>rfl
 |5,_=>rfl
 |6,_=>rfl
 |7,_=>rfl
 |n+8,h=>absurd h (by omega)
theorem set_A (t:Tb) (x:Int) (k:Nat) (h:k<8):(tcs t).setIfInBounds (32+k*4+1) (.int .u32 x)=tcs {t with A:=up t.A k x}:=
 match k,h with
 |0,_=>rfl
 |1,_=>rfl
 |2,_=>rfl
 |3,_=>rfl
 |4,_=>rfl
 |5,_=>rfl
 |6,_=>rfl
 |7,_=>rfl
 |n+8,h=>absurd h (by omega)
theorem tcs_S (t:Tb) (k:Nat) (h:k<8):(tcs t)[32+k*4+2]?=some (.int .u32 (t.S k)):=
 match k,h with
 |0,_=>rfl
 |1,_=>rfl
 |2,_=>rfl
 |3,_=>rfl
 |4,_=>rfl
 |5,_=>rfl
 |6,_=>rfl
 |7,_=>rfl
 |n+8,h=>absurd h (by omega)
theorem set_S (t:Tb) (x:Int) (k:Nat) (h:k<8):(tcs t).setIfInBounds (32+k*4+2) (.int .u32 x)=tcs {t with S:=up t.S k x}:=
 match k,h with
 |0,_=>rfl
 |1,_=>rfl
 |2,_=>rfl
 |3,_=>rfl
 |4,_=>rfl
 |5,_=>rfl
 |6,_=>rfl
 |7,_=>rfl
 |n+8,h=>absurd h (by omega)
theorem tcs_U (t:Tb) (k:Nat) (h:k<8):(tcs t)[32+k*4+3]?=some (.int .i64 (t.U k)):=
 match k,h with
 |0,_=>rfl
 |1,_=>rfl
 |2,_=>rfl
 |3,_=>rfl
 |4,_=>rfl
 |5,_=>rfl
 |6,_=>rfl
 |7,_=>rfl
 |n+8,h=>absurd h (by omega)
theorem set_U (t:Tb) (x:Int) (k:Nat) (h:k<8):(tcs t).setIfInBounds (32+k*4+3) (.int .i64 x)=tcs {t with U:=up t.U k x}:=
 match k,h with
 |0,_=>rfl
 |1,_=>rfl
 |2,_=>rfl
 |3,_=>rfl
 |4,_=>rfl
 |5,_=>rfl
 |6,_=>rfl
 |7,_=>rfl
 |n+8,h=>absurd h (by omega)
end Go.Proofs.YtpiohehijkpghabGreatDoor.Gu.Hy
namespace Go.Proofs.YtpiohehijkpghabGreatDoor.Co
open Go.RowKit
open Hy
open Wi Od Re.Hy
open Gu.Hy (Tb)
set_option linter.unusedVariables false
set_option linter.unusedSimpArgs false
structure Dg where
 seq:Int
 pc:Int
 i:In
 st:Int
 a:Int
 b:Int
 rd:Nat
 to:Int
 old:Int
 next:Int
 gs:Bool
 late:Int
 car:Bool
 c:Cm
structure Mc where
 dcd:Int→Option In
 dow:In→Int→Int→Int→Nat→Cm
 br:Tb→Int→Bool×Int
 va:Tb→Int→Int×Bool
 lb:Tb→Int→Bool→Int→Tb
 lv:Tb→Int→Int→Tb
structure Cr where
 win:Int
 phys:Int
 wide:Int
 n:Nat
 coms:List Cm
 R:Nat→Int
 pc:Int
 st:Int
 ca:Int
 f:Nat→Int
 cyc:Int
 tak:Int
 bck:Int
 tb:Tb
 regs:Nat→Int
 free:List Int
 wd:Int→Int
 th:Int→Bool
 slots:List Sl
 under:List Dg
 asked:List Ac
 scr:List Int
 fro:Int
 opn:Bool
def comC (M:Mc) (n:Nat) (f:Nat→Int) (i:In) (pc a b:Int):Cm:=if ldn i.op≠0 then loadC n f i pc a else M.dow i pc a b n
def fet (M:Mc) (n:Nat) (f:Nat→Int) (pc:Int):In×Int:=
 if fits n pc 4 then(match M.dcd (le (fun k=>f (pc.toNat+k)) 4)with
  |some i=>(i,0)
  |none=>(zin,2))else(zin,1)
def stepC (M:Mc) (n:Nat) (R:Nat→Int) (pc:Int) (f:Nat→Int):Cm:=
 if(fet M n f pc).2≠0 then trapC pc (fet M n f pc).2 else comC M n f (fet M n f pc).1 pc (R (ra (fet M n f pc).1)) (R (rb (fet M n f pc).1))
def stoC (f:Nat→Int) (c:Cm):Nat→Int:=sto f c.pl.toNat c.data c.many.toNat
def updC (R:Nat→Int) (c:Cm):Nat→Int:=if c.rd=0 then R else up R c.rd c.val
def seeV (l:List Ac) (seq x many:Int) (f:Nat→Int):Int:=le (sb l seq l.length x.toNat f) many.toNat
def seeU (l:List Ac) (seq:Int):Bool:=l.all fun q=>!unk seq q
def ownA (o:Dg):Ac:=⟨o.seq,false,true,o.pc,4,0,true⟩
def ldA (seq x many:Int):Ac:=⟨seq,false,true,x,many,0,true⟩
def stA (seq:Int) (c:Cm):Ac:=⟨seq,true,true,c.pl,c.many,c.data,false⟩
def st0 (seq:Int):Ac:=⟨seq,true,false,0,0,0,false⟩
def upI (wd:Int→Int) (x v:Int):Int→Int:=fun y=>if y=x then v else wd y
def upB (th:Int→Bool) (x:Int) (v:Bool):Int→Bool:=fun y=>if y=x then v else th y
def chN (s:Cr):Int:=match s.scr with
 |[]=>0
 |x::_=>x%18446744073709551616
def chS (s:Cr):Cr:={s with scr:=s.scr.tail}
def rdI (M:Mc) (s:Cr):In×Int:=
 if fits s.n s.fro 4 then(match M.dcd (seeV s.asked s.tak s.fro 4 s.f)with
  |some i=>(i,0)
  |none=>(zin,2))else(zin,1)
def askO (s:Cr) (o:Dg):Cr:={s with asked:=s.asked++(ownA o::if sts o.i then[st0 o.seq]else[])}
def namO (s:Cr) (o:Dg):Cr×Dg:=
 if o.rd=0 then(s,{o with a:=s.regs (ra o.i),b:=s.regs (rb o.i)})
 else({s with regs:=up s.regs o.rd (s.free.headD 0),free:=s.free.tail,th:=upB s.th (s.free.headD 0) false},{o with a:=s.regs (ra o.i),b:=s.regs (rb o.i),to:=s.free.headD 0,old:=s.regs o.rd})
def donS (l:List Sl) (seq:Int):List Sl:=l.map fun q=>if q.1=seq then(q.1,true)else q
def stopO (s:Cr) (o:Dg) (k:Int):Cr×Dg:=({s with slots:=donS s.slots o.seq,opn:=false},{o with st:=2,c:=trapC o.pc k})
def wayO (M:Mc) (s:Cr) (o:Dg):Cr×Int:=
 if o.i.op=3 then(s,(o.pc+o.i.im)%4294967296)
 else if trn o.i then
  (chS s,if((M.br s.tb o.pc).1^^decide (chN s%2=1))then(if o.i.op=4 then(M.br s.tb o.pc).2 else(o.pc+o.i.im)%4294967296)else(o.pc+4)%4294967296)
 else(s,(o.pc+4)%4294967296)
def valO (M:Mc) (s:Cr) (pc k:Int):Int×Bool:=if k%3=1 then(0,false)else if k%3=2 then(k%4294967296,true)else M.va s.tb pc
def gueL (M:Mc) (s:Cr) (o:Dg):Cr×Dg:=
 let o:={o with late:=chN s%10,car:=decide (chN s/10%2=1)}
 let v:=valO M s o.pc (chN s/10/2)
 if v.2=true∧o.rd≠0 then({chS s with wd:=upI s.wd o.to v.1,th:=upB s.th o.to true},{o with gs:=true})else(chS s,o)
def gueO (M:Mc) (s:Cr) (o:Dg):Cr×Dg:=
 let r:=wayO M s o
 let s1:={r.1 with fro:=r.2}
 let o1:={o with next:=r.2}
 if ldn o.i.op=0 then(s1,o1)else gueL M s1 o1
def newO (M:Mc) (s:Cr):Dg:=⟨s.tak,s.fro,(rdI M s).1,0,0,0,gvs (rdI M s).1,0,0,0,false,0,false,zcm⟩
def tak1 (M:Mc) (s:Cr):Cr×Bool:=
 if s.win≤s.slots.length then(s,false)
 else if gvs (rdI M s).1≠0∧s.free=[]then(s,false)
 else
  let r:=namO (askO {s with slots:=s.slots++[(s.tak,false)],tak:=s.tak+1} (newO M s)) (newO M s)
  let t:=if(rdI M s).2≠0 then stopO r.1 r.2 (rdI M s).2 else gueO M r.1 r.2
  ({t.1 with under:=t.1.under++[t.2]},true)
def takN (M:Mc):Nat→Cr→Cr
 |0,s=>s
 |k+1,s=>if s.opn=true then(if(tak1 M s).2=true then takN M k (tak1 M s).1 else(tak1 M s).1)else s
def undo (regs:Nat→Int) (free:List Int):List Dg→(Nat→Int)×List Int
 |[]=>(regs,free)
 |o::l=>let r:=undo regs free l;if o.rd=0 then r else(up r.1 o.rd o.old,r.1 o.rd::r.2)
def back (s:Cr) (seq pc:Int):Cr:=
 let r:=undo s.regs s.free (s.under.filter fun o=>decide (seq≤o.seq))
 {s with regs:=r.1,free:=r.2,slots:=stayS s.slots seq,under:=s.under.filter (fun o=>!decide (seq≤o.seq)),asked:=s.asked.filter (fun q=>!decide (seq≤q.seq)),bck:=if cutS s.slots seq=[]then s.bck else s.bck+1,fro:=pc,opn:=true}
def pcOf (l:List Dg) (seq:Int):Int:=match l.find? (fun o=>decide (o.seq=seq))with
 |some o=>o.pc
 |none=>0
def setA (l:List Ac) (seq:Int) (e:Ac):List Ac:=l.map fun q=>if q.st=true∧q.seq=seq then e else q
def settle (s:Cr) (seq:Int) (c:Cm):Cr:=
 let s1:={s with asked:=setA s.asked seq (stA seq c)}
 match lst s1.asked (stA seq c) s1.asked.length with
  |none=>s1
  |some e=>back s1 e (pcOf s.under e)
def rightC (s:Cr) (o:Dg) (c:Cm):Bool:=c.rd=0||!o.gs||decide (s.wd o.to=c.val)
def fillC (s:Cr) (o:Dg) (c:Cm):Cr:=if c.rd=0 then s else{s with wd:=upI s.wd o.to c.val,th:=upB s.th o.to true}
def putO (l:List Dg) (seq:Int) (g:Dg→Dg):List Dg:=l.map fun o=>if o.seq=seq then g o else o
def fin1 (s:Cr) (o:Dg) (c:Cm):Cr:=
 let s1:={s with under:=putO s.under o.seq (fun o=>{o with st:=2,c:=c}),slots:=donS s.slots o.seq}
 if sts o.i then settle s1 o.seq c else s1
def finish (s:Cr) (o:Dg) (c:Cm):Cr:=
 if rightC (fin1 s o c) o c=true∧c.next=o.next then fillC (fin1 s o c) o c
 else{back (fillC (fin1 s o c) o c) (o.seq+1) c.next with opn:=decide (c.st=0)}
def lod1 (s:Cr) (o:Dg):Cr:=
 let x:=place o.i (s.wd o.a)
 let m:=ldn o.i.op
 if fits s.n x m then
  if !(seeU s.asked o.seq)&&o.car then s
  else finish {s with asked:=s.asked++[ldA o.seq x m]} o (onC o.pc o.i.rd (ldv o.i.op (sb s.asked o.seq s.asked.length x.toNat s.f)))
 else finish s o (trapC o.pc 3)
def lodS (s:Cr) (q:Int):Cr:=match s.under.find? (fun o=>decide (o.seq=q))with
 |none=>s
 |some o=>if 0<o.late then{s with under:=putO s.under q (fun o=>{o with late:=o.late-1})}else lod1 s o
def load (s:Cr):Cr:=((s.under.filter fun o=>decide (o.st=1)).map (·.seq)).foldl lodS s
def sta1 (M:Mc) (s:Cr) (o:Dg):Cr:=
 if ldn o.i.op≠0 then{s with under:=putO s.under o.seq (fun o=>{o with st:=1})}
 else finish s o (M.dow o.i o.pc (s.wd o.a) (s.wd o.b) s.n)
def staS (M:Mc) (s:Cr) (q:Int):Cr:=match s.under.find? (fun o=>decide (o.seq=q))with
 |none=>s
 |some o=>sta1 M s o
def ready (s:Cr):List Int:=(s.under.filter fun o=>decide (o.st=0)&&s.th o.a&&s.th o.b).map (·.seq)
def turn (s:Cr) (l:List Int):List Int:=match l with
 |[]=>[]
 |x::r=>if 1<l.length∧chN s%2=1 then x::r.reverse else x::r
def start (M:Mc) (s:Cr):Cr:=
 let l:=ready s
 let s1:=if 1<l.length then chS s else s
 ((turn s l).take s.wide.toNat).foldl (staS M) s1
def learn (M:Mc) (t:Tb) (o:Dg):Tb:=
 let t1:=if trn o.i then M.lb t o.pc (decide (o.i.op=4)||!decide (o.c.next=(o.pc+4)%4294967296)) o.c.next else t
 if ldn o.i.op≠0∧o.c.rd≠0 then M.lv t1 o.pc o.c.val else t1
def com1 (M:Mc) (s:Cr) (o:Dg):Cr:=
 {s with coms:=s.coms++[o.c],R:=updC s.R o.c,pc:=o.c.next,st:=o.c.st,ca:=o.c.ca,f:=stoC s.f o.c,free:=if o.rd=0 then s.free else s.free++[o.old],tb:=learn M s.tb o}
def left (s:Cr):Int:=2000-s.coms.length-(6000-s.cyc)/30
def goesN:List Sl→Nat→Nat
 |[],_=>0
 |_,0=>0
 |q::l,k+1=>if q.2 then goesN l k+1 else 0
def commit (M:Mc) (s:Cr):Cr:=
 let m:=goesN s.slots (min s.wide (left s)).toNat
 let s1:=(s.under.take m).foldl (com1 M) s
 {s1 with slots:=s.slots.drop m,under:=s.under.drop m,asked:=s.asked.filter fun q=>!decide (q.seq∈(s.slots.take m).map (·.1))}
def cycle (M:Mc) (s:Cr):Cr:=
 let s1:=commit M {s with cyc:=s.cyc+1}
 if s1.st=0 then takN M s.wide.toNat (start M (load s1))else s1
def runN (M:Mc):Nat→Cr→Cr
 |0,s=>s
 |k+1,s=>if s.st=0 then runN M k (cycle M s)else s
def begin (win phys wide:Int) (n:Nat) (R:Nat→Int) (pc st ca:Int) (f:Nat→Int) (scr:List Int):Cr:=
 ⟨win,phys,wide,n,[],R,pc,st,ca,f,0,0,0,⟨fun _=>0,fun _=>0,fun _=>0,fun _=>0,fun _=>0,fun _=>0⟩,fun i=>i,(List.range (phys.toNat-32)).map (fun i:Nat=>32+(i:Int)),fun x=>if x<32 then R x.toNat else 0,fun x=>decide (x<32),[],[],[],scr,pc,true⟩
end Go.Proofs.YtpiohehijkpghabGreatDoor.Co
