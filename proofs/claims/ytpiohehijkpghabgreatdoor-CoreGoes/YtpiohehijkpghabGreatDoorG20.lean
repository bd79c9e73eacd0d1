/- A core as memory holds it: its cells, its slices, what stays of them. -/
import Derived.Deep.AppendSrc
import Derived.Deep.MidRow
import Derived.Test.YtpiohehijkpghabGreatDoorG19
import Derived.Test.YtpiohehijkpghabGreatDoorG17
import Derived.Test.YtpiohehijkpghabGreatDoorG15
import Derived.Test.YtpiohehijkpghabGreatDoorG11
namespace Go.Proofs.YtpiohehijkpghabGreatDoor.Co
open Go.RowKit
open Hy
open Wi Od Re.Hy
open Gu.Hy (Tb tcs)
set_option linter.unusedVariables false
set_option linter.unusedSimpArgs false
def rowOf (f:Nat→Value) (n:Nat):Array Value:=((List.range n).map f).toArray
theorem rowOf_size (f:Nat→Value) (n:Nat):(rowOf f n).size=n:=by simp[rowOf]
theorem rowOf_get (f:Nat→Value) {n i:Nat} (h:i<n):(rowOf f n)[i]?=some (f i):=by simp[rowOf,h]
theorem rowOf_congr {f g:Nat→Value} {n:Nat} (h:∀i,i<n→f i=g i):rowOf f n=rowOf g n:=by
 unfold rowOf
 rw[List.map_congr_left (fun i hi=>h i (List.mem_range.1 hi))]
theorem row_ext {A:Array Value} {f:Nat→Value} {n:Nat} (hs:A.size=n) (h:∀i,i<n→A[i]?=some (f i)):A=rowOf f n:=by
 apply Array.ext_getElem?
 intro i
 by_cases hi:i<n
 ·rw[h i hi,rowOf_get f hi]
 ·rw[Array.getElem?_eq_none (by omega),Array.getElem?_eq_none (by rw[rowOf_size];omega)]
theorem rowOf_set (f:Nat→Value) (n i:Nat) (v:Value):(rowOf f n).setIfInBounds i v=rowOf (fun j=>if j=i then v else f j) n:=by
 refine row_ext (by simp[rowOf_size]) fun j hj=>?_
 rw[Array.getElem?_setIfInBounds]
 by_cases e:i=j
 ·subst e
  simp[rowOf_size,hj]
 ·have e':¬j=i:=fun h=>e h.symm
  simp[e,e',rowOf_get f hj]
def hat (R:Nat→Int) (pc st ca:Int) (i:Nat):Value:=if i<32 then .int .u32 (R i)else if i=32 then .int .u32 pc else if i=33 then .int .i64 st else .int .i64 ca
def tat (t:Tb) (i:Nat):Value:=
 if i<32 then(if i%2=0 then .int .i64 (t.L (i/2))else .int .u32 (t.G (i/2)))
 else(if i%4=0 then .int .u32 (t.P ((i-32)/4))else if i%4=1 then .int .u32 (t.A ((i-32)/4))else if i%4=2 then .int .u32 (t.S ((i-32)/4))else .int .i64 (t.U ((i-32)/4)))
def mat (P:Int) (r:Nat→Int) (v:Value) (i:Nat):Value:=if i=0 then .int .i64 P else if i<33 then .int .i64 (r (i-1))else v
theorem hcs_row (R:Nat→Int) (pc st ca:Int):hcs R pc st ca=rowOf (hat R pc st ca) 35:=by rfl
theorem tcs_row (t:Tb):tcs t=rowOf (tat t) 64:=by rfl
theorem mcs_row (P:Int) (r:Nat→Int) (v:Value):mcs P r v=rowOf (mat P r v) 34:=by rfl
structure Sls where
 c:Value
 m:Value
 f:Value
 s:Value
 u:Value
 a:Value
 r:Value
def kat (s:Cr) (L:Sls) (i:Nat):Value:=
 if i<4 then(if i=0 then .int .i64 s.win else if i=1 then .int .i64 s.phys else if i=2 then .int .i64 s.wide else L.c)
 else if i<39 then hat s.R s.pc s.st s.ca (i-4)
 else if i<43 then(if i=39 then L.m else if i=40 then .int .i64 s.cyc else if i=41 then .int .i64 s.tak else .int .i64 s.bck)
 else if i<107 then tat s.tb (i-43)
 else if i<141 then mat s.phys s.regs L.f (i-107)
 else if i<237 then .int .u32 (s.wd ((i-141:Nat):Int))
 else if i<333 then .bool (s.th ((i-237:Nat):Int))
 else if i=333 then L.s else if i=334 then L.u else if i=335 then L.a else if i=336 then L.r else if i=337 then .int .u32 s.fro else .bool s.opn
def flat {α:Type} (g:α→List Value):List α→List Value
 |[]=>[]
 |x::l=>g x++flat g l
theorem flat_len {α:Type} {g:α→List Value} {size:Nat} (hg:∀x,(g x).length=size):∀l:List α,(flat g l).length=l.length*size
 |[]=>by simp[flat]
 |x::l=>by simp[flat,hg,flat_len hg l,Nat.add_mul,Nat.add_comm]
theorem flat_app {α:Type} (g:α→List Value):∀l m:List α,flat g (l++m)=flat g l++flat g m
 |[],m=>rfl
 |x::l,m=>by simp[flat,flat_app g l m]
theorem flat_at {α:Type} {g:α→List Value} {size:Nat} (hg:∀x,(g x).length=size):∀{l:List α} {k j:Nat} {x:α} {u:Value},l[k]?=some x→(g x)[j]?=some u→(flat g l)[k*size+j]?=some u
 |[],k,j,x,u,h,_=>by simp at h
 |y::l,0,j,x,u,h,hu=>by
  simp at h
  subst h
  have hj:j<(g y).length:=(List.getElem?_eq_some_iff.1 hu).1
  rw[Nat.zero_mul,Nat.zero_add]
  show(g y++flat g l)[j]?=_
  rw[List.getElem?_append_left hj]
  exact hu
 |y::l,k+1,j,x,u,h,hu=>by
  have:=flat_at hg (l:=l) (k:=k) (by simpa using h) hu
  show(g y++flat g l)[(k+1)*size+j]?=_
  have e:(k+1)*size+j=(g y).length+(k*size+j):=by rw[hg,Nat.add_mul];omega
  rw[e,List.getElem?_append_right (by omega),Nat.add_sub_cancel_left]
  exact this
theorem flat_drop {α:Type} {g:α→List Value} {size:Nat} (hg:∀x,(g x).length=size):∀(l:List α) (m:Nat),flat g (l.drop m)=(flat g l).drop (m*size)
 |l,0=>by simp
 |[],m+1=>by simp[flat]
 |x::l,m+1=>by
  have:=flat_drop hg l m
  rw[List.drop_succ_cons,this]
  show _=(g x++flat g l).drop ((m+1)*size)
  have e1:(g x).drop ((m+1)*size)=[]:=List.drop_eq_nil_of_le (by rw[hg,Nat.add_mul];omega)
  rw[List.drop_append,hg,e1,show(m+1)*size-size=m*size by rw[Nat.add_mul];omega,List.nil_append]
def cml (c:Cm):List Value:=[.int .u32 c.pc,.int .u32 c.next,.int .i64 c.st,.int .i64 c.ca,.int .i64 c.rd,.int .u32 c.val,.int .u32 c.pl,.int .i64 c.many,.int .u32 c.data,.bool c.out,.int .u32 c.told]
def dgl (o:Dg):List Value:=[.int .i64 o.seq,.int .u32 o.pc,.int .i64 o.i.op,.int .i64 o.i.rd,.int .i64 o.i.s1,.int .i64 o.i.s2,.int .i32 o.i.im,.int .i64 o.st,.int .i64 o.a,.int .i64 o.b,.int .i64 o.rd,.int .i64 o.to,.int .i64 o.old,.int .u32 o.next,.bool o.gs,.int .i64 o.late,.bool o.car,
 .int .u32 o.c.pc,.int .u32 o.c.next,.int .i64 o.c.st,.int .i64 o.c.ca,.int .i64 o.c.rd,.int .u32 o.c.val,.int .u32 o.c.pl,.int .i64 o.c.many,.int .u32 o.c.data,.bool o.c.out,.int .u32 o.c.told]
abbrev dgv (o:Dg):Value:=.agg (dgl o).toArray
theorem dgl_len (o:Dg):(dgl o).length=28:=rfl
theorem cml_one (c:Cm):∀u∈cml c,u.oneCell'=true:=by
 intro u hu
 simp only[cml,List.mem_cons,List.not_mem_nil,or_false]at hu
 rcases hu with rfl|rfl|rfl|rfl|rfl|rfl|rfl|rfl|rfl|rfl|rfl<;>rfl
theorem dgl_one (o:Dg):∀u∈dgl o,u.oneCell'=true:=by
 intro u hu
 simp only[dgl,List.mem_cons,List.not_mem_nil,or_false]at hu
 rcases hu with rfl|rfl|rfl|rfl|rfl|rfl|rfl|rfl|rfl|rfl|rfl|rfl|rfl|rfl|rfl|rfl|rfl|rfl|rfl|rfl|rfl|rfl|rfl|rfl|rfl|rfl|rfl|rfl<;>rfl
theorem acs_flat:∀l:List Ac,acs l=flat cel l
 |[]=>rfl
 |x::l=>by
  have:=acs_flat l
  show cel x++acs l=cel x++flat cel l
  rw[this]
structure Us (w:World) (e size:Nat) (v:Value) (n:Nat) (xs:List Value):Prop where
 len:xs.length=n*size
 one:∀u∈xs,u.oneCell'=true
 is:(v=.slice none 0 0∧n=0)∨∃g o cap cur,v=.slice (some ⟨g,o,none⟩) n cap∧w.heap[g]?=some (.cells cur e (0,0))∧n≤cap∧cap≤maxLen∧o+cap*size≤cur.size∧(cur.toList.drop o).take (n*size)=xs
theorem Us.slice {w:World} {e size:Nat} {v:Value} {n:Nat} {xs:List Value} (h:Us w e size v n xs):∃p c,v=.slice p n c:=by
 rcases h.is with⟨h1,rfl⟩|⟨g,o,cap,cur,h1,_⟩
 ·exact⟨none,0,h1⟩
 ·exact⟨_,_,h1⟩
theorem Us.lc {w:World} {e size:Nat} {p:Option Addr} {n c:Nat} {xs:List Value} (h:Us w e size (.slice p n c) n xs):LC w p n c size xs:=by
 rcases h.is with⟨h1,rfl⟩|⟨g,o,cap,cur,h1,h2,h3,h4,h5,h6⟩
 ·obtain⟨rfl,-,rfl⟩:p=none∧0=0∧c=0:=by injection h1 with a b d;exact⟨a,b,d⟩
  obtain rfl:xs=[]:=List.eq_nil_of_length_eq_zero (by rw[h.len,Nat.zero_mul])
  exact lc_none w size
 ·obtain⟨rfl,-,rfl⟩:p=some ⟨g,o,none⟩∧n=n∧c=cap:=by injection h1 with a b d;exact⟨a,b,d⟩
  refine⟨h.len,h3,h4,fun h=>(by cases h),h.one,fun x hx h0=>⟨g,o,(Option.some.inj hx).symm,(Array.getElem?_eq_some_iff.1 h2).1,fun j u hj=>?_⟩⟩
  rw[cell_of_row _ _ _ _ _ _ h2,←Array.getElem?_toList]
  rw[←h6]at hj
  have hlt:j<n*size:=by have:=(List.getElem?_eq_some_iff.1 hj).1;rw[List.length_take]at this;omega
  rw[List.getElem?_take_of_lt hlt,List.getElem?_drop]at hj
  exact hj
theorem Us.move {w w':World} {e size:Nat} {v:Value} {n:Nat} {xs:List Value} (h:Us w e size v n xs) (hb:∀g,v.ownBlock=some g→w'.heap[g]?=w.heap[g]?):Us w' e size v n xs:=
 ⟨h.len,h.one,h.is.imp id fun⟨g,o,cap,cur,h1,h2,r⟩=>⟨g,o,cap,cur,h1,(hb g (by rw[h1];rfl)).trans h2,r⟩⟩
theorem Us.block {w:World} {e size:Nat} {v:Value} {n:Nat} {xs:List Value} (h:Us w e size v n xs) {g:Nat} (hg:v.ownBlock=some g):∃cur,w.heap[g]?=some (.cells cur e (0,0)):=by
 rcases h.is with⟨h1,_⟩|⟨g',o,cap,cur,h1,h2,_⟩
 ·rw[h1]at hg;cases hg
 ·rw[h1]at hg
  obtain rfl:g'=g:=Option.some.inj hg
  exact⟨cur,h2⟩
def own (b:Nat) (L:Sls) (g:Nat):Prop:=g=b∨L.c.ownBlock=some g∨L.u.ownBlock=some g∨L.a.ownBlock=some g
structure Its (N:Nat) (w:World) (b:Nat) (s:Cr) (L:Sls):Prop where
 ic:Us w 64 11 L.c s.coms.length (flat cml s.coms)
 iu:Us w 97 28 L.u s.under.length (flat dgl s.under)
 ia:Us w 100 7 L.a s.asked.length (flat cel s.asked)
 im:∃p cap,L.m=.slice p s.n cap∧Bys w p s.n cap s.f
 ifr:∃p cap,L.f=.slice p s.free.length cap∧Re.Lie w p s.free.length cap (fun i=>s.free.getD i 0)
 isl:∃p cap,L.s=.slice p s.slots.length cap∧LC w p s.slots.length cap 2 (scs s.slots)
 ir:∃p cap,L.r=.slice p s.scr.length cap∧LC w p s.scr.length cap 1 (ics s.scr)
 sm:∀g,L.m.ownBlock=some g→0<s.n→¬own b L g
 sf:∀g,L.f.ownBlock=some g→0<s.free.length→¬own b L g
 ss:∀g,L.s.ownBlock=some g→0<s.slots.length→¬own b L g
 sr:∀g,L.r.ownBlock=some g→0<s.scr.length→¬own b L g
 base:∀g,own b L g→N≤g
 tb:Tab w
 tb2:Tab2 w
 g1:1<N
 g2:0<N
 nN:N≤w.heap.size
structure St (N:Nat) (w:World) (b:Nat) (s:Cr) (L:Sls):Prop where
 row:w.heap[b]?=some (.cells (rowOf (kat s L) 339) 61 (0,0))
 its:Its N w b s L
structure To (b:Nat) (w:World) (L:Sls) (w':World) (L':Sls):Prop where
 os:w'.os=w.os
 tape:w'.tape=w.tape
 output:w'.output=w.output
 size:w.heap.size≤w'.heap.size
 block:∀g,g<w.heap.size→¬own b L g→w'.heap[g]?=w.heap[g]?
 fresh:∀g,own b L' g→own b L g∨w.heap.size≤g
theorem To.refl (b:Nat) (w:World) (L:Sls):To b w L w L:=⟨rfl,rfl,rfl,Nat.le_refl _,fun _ _ _=>rfl,fun _ h=>.inl h⟩
theorem To.trans {b:Nat} {w w1 w2:World} {L L1 L2:Sls} (h:To b w L w1 L1) (k:To b w1 L1 w2 L2):To b w L w2 L2:=by
 refine⟨k.os.trans h.os,k.tape.trans h.tape,k.output.trans h.output,Nat.le_trans h.size k.size,fun g hg hn=>?_,fun g hg=>?_⟩
 ·rw[k.block g (Nat.lt_of_lt_of_le hg h.size) (fun ho=>?_),h.block g hg hn]
  rcases h.fresh g ho with h'|h'
  ·exact hn h'
  ·omega
 ·rcases k.fresh g hg with h'|h'
  ·exact h.fresh g h'
  ·exact .inr (Nat.le_trans h.size h')
theorem to_below {b:Nat} {w w':World} (L:Sls) (h:Below w.heap.size w w'):To b w L w' L:=⟨h.os,h.tape,h.output,h.size,fun g hg _=>h.block g hg,fun _ h=>.inl h⟩
theorem own_lt {N:Nat} {w:World} {b:Nat} {s:Cr} {L:Sls} (h:St N w b s L) {g:Nat} (hg:own b L g):g<w.heap.size:=by
 rcases hg with rfl|hg|hg|hg
 ·exact(Array.getElem?_eq_some_iff.1 h.row).1
 ·obtain⟨cur,e⟩:=h.its.ic.block hg;exact(Array.getElem?_eq_some_iff.1 e).1
 ·obtain⟨cur,e⟩:=h.its.iu.block hg;exact(Array.getElem?_eq_some_iff.1 e).1
 ·obtain⟨cur,e⟩:=h.its.ia.block hg;exact(Array.getElem?_eq_some_iff.1 e).1
end Go.Proofs.YtpiohehijkpghabGreatDoor.Co
