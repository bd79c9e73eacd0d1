/- What a core's small functions come to. -/
import Derived.Deep.AppendSrc
import Derived.Deep.MidRow
import Derived.Deep.RegionHeld3
import Derived.Test.YtpiohehijkpghabGreatDoorS19
import Derived.Test.YtpiohehijkpghabGreatDoorS24
import Derived.Test.YtpiohehijkpghabGreatDoorS11
import Derived.Test.YtpiohehijkpghabGreatDoorS29
set_option linter.unusedSimpArgs false
set_option linter.unusedVariables false
open Go.Proofs.Tryz
namespace Go.Proofs.YtpiohehijkpghabGreatDoor.Co
open Go.RowKit
open Hy
open Wi Od Re.Hy
open Gu.Hy (Tb tcs)
def rowOf(f:Nat->Value)(n:Nat):Array Value:=((List.range n).map f).toArray
theorem zf(f:Nat->Value)(n:Nat):(rowOf f n).size=n:=by simp[rowOf]
theorem zp(f:Nat->Value){n i:Nat}(h:i<n):(rowOf f n)[i]?=some (f i):=by simp[rowOf,h]
theorem qt{f g:Nat->Value}{n:Nat}(h:∀i,i<n->f i=g i):rowOf f n=rowOf g n:=by
 unfold rowOf
 rw[List.map_congr_left (fun i hi=>h i (List.mem_range.1 hi))]
theorem zl2{A:Array Value}{f:Nat->Value}{n:Nat}(hs:A.size=n)(h:∀i,i<n->A[i]?=some (f i)):A=rowOf f n:=by
 apply Array.ext_getElem?
 intro i
 by_cases hi:i<n
 ·rw[h i hi,zp f hi]
 ·rw[Array.getElem?_eq_none (by omega),Array.getElem?_eq_none (by rw[zf];omega)]
theorem jS(f:Nat->Value)(n i:Nat)(v:Value):(rowOf f n).setIfInBounds i v=rowOf (fun j=>if j=i then v else f j) n:=by
 refine zl2 (by simp[zf]) fun j hj=>?_
 rw[Array.getElem?_setIfInBounds]
 by_cases e:i=j
 ·subst e
  simp[zf,hj]
 ·have e':¬j=i:=fun h=>e h.symm
  simp[e,e',zp f hj]
def hat(R:Nat->Int)(pc st ca:Int)(i:Nat):Value:=if i<32 then .int .u32 (R i)else if i=32 then .int .u32 pc else if i=33 then .int .i64 st else .int .i64 ca
def tat(t:Tb)(i:Nat):Value:=
 if i<32 then(if i%2=0 then .int .i64 (t.L (i/2))else .int .u32 (t.G (i/2)))
 else(if i%4=0 then .int .u32 (t.P ((i-32)/4))else if i%4=1 then .int .u32 (t.A ((i-32)/4))else if i%4=2 then .int .u32 (t.S ((i-32)/4))else .int .i64 (t.U ((i-32)/4)))
def mat(P:Int)(r:Nat->Int)(v:Value)(i:Nat):Value:=if i=0 then .int .i64 P else if i<33 then .int .i64 (r (i-1))else v
theorem yk(R:Nat->Int)(pc st ca:Int):hcs R pc st ca=rowOf (hat R pc st ca) 35:=by rfl
theorem yl(t:Tb):tcs t=rowOf (tat t) 64:=by rfl
theorem xQ(P:Int)(r:Nat->Int)(v:Value):mcs P r v=rowOf (mat P r v) 34:=by rfl
structure Sls where
 c:Value
 m:Value
 f:Value
 s:Value
 u:Value
 a:Value
 r:Value
def kat(s:Cr)(L:Sls)(i:Nat):Value:=
 if i<4 then(if i=0 then .int .i64 s.win else if i=1 then .int .i64 s.phys else if i=2 then .int .i64 s.wide else L.c)
 else if i<39 then hat s.R s.pc s.st s.ca (i-4)
 else if i<43 then(if i=39 then L.m else if i=40 then .int .i64 s.cyc else if i=41 then .int .i64 s.tak else .int .i64 s.bck)
 else if i<107 then tat s.tb (i-43)
 else if i<141 then mat s.phys s.regs L.f (i-107)
 else if i<237 then .int .u32 (s.wd ((i-141:Nat):Int))
 else if i<333 then .bool (s.th ((i-237:Nat):Int))
 else if i=333 then L.s else if i=334 then L.u else if i=335 then L.a else if i=336 then L.r else if i=337 then .int .u32 s.fro else .bool s.opn
def flat{α:Type}(g:α->List Value):List α->List Value
 |[]=>[]
 |x::l=>g x++flat g l
theorem kE{α:Type}{g:α->List Value}{size:Nat}(hg:∀x,(g x).length=size):∀l:List α,(flat g l).length=l.length*size
 |[]=>by simp[flat]
 |x::l=>by simp[flat,hg,kE hg l,Nat.add_mul,Nat.add_comm]
theorem kF{α:Type}(g:α->List Value):∀l m:List α,flat g (l++m)=flat g l++flat g m
 |[],m=>rfl
 |x::l,m=>by simp[flat,kF g l m]
theorem qJ{α:Type}{g:α->List Value}{size:Nat}(hg:∀x,(g x).length=size):∀{l:List α} {k j:Nat} {x:α} {u:Value},l[k]?=some x->(g x)[j]?=some u->(flat g l)[k*size+j]?=some u
 |[],k,j,x,u,h,_=>by simp at h
 |y::l,0,j,x,u,h,hu=>by
  simp at h
  subst h
  have hj:j<(g y).length:=(List.getElem?_eq_some_iff.1 hu).1
  rw[Nat.zero_mul,Nat.zero_add]
  show(g y++flat g l)[j]?=_
  rw[List.getElem?_append_left hj]
  exact hu
 |y::l,k+1,j,x,u,h,hu=>by
  have:=qJ hg (l:=l) (k:=k) (by simpa using h) hu
  show(g y++flat g l)[(k+1)*size+j]?=_
  have e:(k+1)*size+j=(g y).length+(k*size+j):=by rw[hg,Nat.add_mul];omega
  rw[e,List.getElem?_append_right (by omega),Nat.add_sub_cancel_left]
  exact this
theorem zev{α:Type}{g:α->List Value}(hg:∀x,∀u∈g x,u.oneCell'=true):∀l:List α,∀u∈flat g l,u.oneCell'=true
 |[],u,h=>by simp[flat]at h
 |x::l,u,h=>by
  rcases List.mem_append.1 h with h|h
  ·exact hg x u h
  ·exact zev hg l u h
theorem zcv{α:Type}{g:α->List Value}{size:Nat}(hg:∀x,(g x).length=size):∀(l:List α) (m:Nat),flat g (l.drop m)=(flat g l).drop (m*size)
 |l,0=>by simp
 |[],m+1=>by simp[flat]
 |x::l,m+1=>by
  have:=zcv hg l m
  rw[List.drop_succ_cons,this]
  show _=(g x++flat g l).drop ((m+1)*size)
  have e1:(g x).drop ((m+1)*size)=[]:=List.drop_eq_nil_of_le (by rw[hg,Nat.add_mul];omega)
  rw[List.drop_append,hg,e1,show(m+1)*size-size=m*size by rw[Nat.add_mul];omega,List.nil_append]
def cml(c:Cm):List Value:=[.int .u32 c.pc,.int .u32 c.next,.int .i64 c.st,.int .i64 c.ca,.int .i64 c.rd,.int .u32 c.val,.int .u32 c.pl,.int .i64 c.many,.int .u32 c.data,.bool c.out,.int .u32 c.told]
def dgl(o:Dg):List Value:=[.int .i64 o.seq,.int .u32 o.pc,.int .i64 o.i.op,.int .i64 o.i.rd,.int .i64 o.i.s1,.int .i64 o.i.s2,.int .i32 o.i.im,.int .i64 o.st,.int .i64 o.a,.int .i64 o.b,.int .i64 o.rd,.int .i64 o.to,.int .i64 o.old,.int .u32 o.next,.bool o.gs,.int .i64 o.late,.bool o.car,
 .int .u32 o.c.pc,.int .u32 o.c.next,.int .i64 o.c.st,.int .i64 o.c.ca,.int .i64 o.c.rd,.int .u32 o.c.val,.int .u32 o.c.pl,.int .i64 o.c.many,.int .u32 o.c.data,.bool o.c.out,.int .u32 o.c.told]
abbrev dgv(o:Dg):Value:=.agg (dgl o).toArray
theorem zhM(c:Cm):(cml c).length=11:=rfl
theorem zP(o:Dg):(dgl o).length=28:=rfl
theorem zhN(c:Cm):∀u∈cml c,u.oneCell'=true:=by
 intro u hu
 simp only[cml,List.mem_cons,List.not_mem_nil,or_false]at hu
 rcases hu with rfl|rfl|rfl|rfl|rfl|rfl|rfl|rfl|rfl|rfl|rfl<;>rfl
theorem xR(o:Dg):∀u∈dgl o,u.oneCell'=true:=by
 intro u hu
 simp only[dgl,List.mem_cons,List.not_mem_nil,or_false]at hu
 rcases hu with rfl|rfl|rfl|rfl|rfl|rfl|rfl|rfl|rfl|rfl|rfl|rfl|rfl|rfl|rfl|rfl|rfl|rfl|rfl|rfl|rfl|rfl|rfl|rfl|rfl|rfl|rfl|rfl<;>rfl
theorem xB:∀l:List Ac,acs l=flat cel l
 |[]=>rfl
 |x::l=>by
  have:=xB l
  show cel x++acs l=cel x++flat cel l
  rw[this]
structure Us(w:World)(e size:Nat)(v:Value)(n:Nat)(xs:List Value):Prop where
 len:xs.length=n*size
 one:∀u∈xs,u.oneCell'=true
 is:(v=.slice none 0 0/\n=0)\/∃g o cap cur,v=.slice (some ⟨g,o,none⟩) n cap/\w.heap[g]?=some (.cells cur e (0,0))/\n<=cap/\cap<=maxLen/\o+cap*size<=cur.size/\(cur.toList.drop o).take (n*size)=xs
theorem Us.slice{w:World}{e size:Nat}{v:Value}{n:Nat}{xs:List Value}(h:Us w e size v n xs):∃p c,v=.slice p n c:=by
 rcases h.is with⟨h1,rfl⟩|⟨g,o,cap,cur,h1,_⟩
 ·exact⟨none,0,h1⟩
 ·exact⟨_,_,h1⟩
theorem Us.lc{w:World}{e size:Nat}{p:Option Addr}{n c:Nat}{xs:List Value}(h:Us w e size (.slice p n c) n xs):LC w p n c size xs:=by
 rcases h.is with⟨h1,rfl⟩|⟨g,o,cap,cur,h1,h2,h3,h4,h5,h6⟩
 ·obtain⟨rfl,-,rfl⟩:p=none/\0=0/\c=0:=by injection h1 with a b d;exact⟨a,b,d⟩
  obtain rfl:xs=[]:=List.eq_nil_of_length_eq_zero (by rw[h.len,Nat.zero_mul])
  exact xi w size
 ·obtain⟨rfl,-,rfl⟩:p=some ⟨g,o,none⟩/\n=n/\c=cap:=by injection h1 with a b d;exact⟨a,b,d⟩
  refine⟨h.len,h3,h4,fun h=>(by cases h),h.one,fun x hx h0=>⟨g,o,(Option.some.inj hx).symm,(Array.getElem?_eq_some_iff.1 h2).1,fun j u hj=>?_⟩⟩
  rw[cell_of_row _ _ _ _ _ _ h2,<-Array.getElem?_toList]
  rw[<-h6]at hj
  have hlt:j<n*size:=by have:=(List.getElem?_eq_some_iff.1 hj).1;rw[List.length_take]at this;omega
  rw[List.getElem?_take_of_lt hlt,List.getElem?_drop]at hj
  exact hj
theorem Us.move{w w':World}{e size:Nat}{v:Value}{n:Nat}{xs:List Value}(h:Us w e size v n xs)(hb:∀g,v.ownBlock=some g->w'.heap[g]?=w.heap[g]?):Us w' e size v n xs:=
 ⟨h.len,h.one,h.is.imp id fun⟨g,o,cap,cur,h1,h2,r⟩=>⟨g,o,cap,cur,h1,(hb g (by rw[h1];rfl)).trans h2,r⟩⟩
theorem Us.block{w:World}{e size:Nat}{v:Value}{n:Nat}{xs:List Value}(h:Us w e size v n xs){g:Nat}(hg:v.ownBlock=some g):∃cur,w.heap[g]?=some (.cells cur e (0,0)):=by
 rcases h.is with⟨h1,_⟩|⟨g',o,cap,cur,h1,h2,_⟩
 ·rw[h1]at hg;cases hg
 ·rw[h1]at hg
  obtain rfl:g'=g:=Option.some.inj hg
  exact⟨cur,h2⟩
def own(b:Nat)(L:Sls)(g:Nat):Prop:=g=b\/L.c.ownBlock=some g\/L.u.ownBlock=some g\/L.a.ownBlock=some g
structure Its(N:Nat)(w:World)(b:Nat)(s:Cr)(L:Sls):Prop where
 ic:Us w 64 11 L.c s.coms.length (flat cml s.coms)
 iu:Us w 97 28 L.u s.under.length (flat dgl s.under)
 ia:Us w 100 7 L.a s.asked.length (flat cel s.asked)
 im:∃p cap,L.m=.slice p s.n cap/\Bys w p s.n cap s.f
 ifr:∃p cap,L.f=.slice p s.free.length cap/\Re.Lie w p s.free.length cap (fun i=>s.free.getD i 0)
 isl:∃p cap,L.s=.slice p s.slots.length cap/\LC w p s.slots.length cap 2 (scs s.slots)
 ir:∃p cap,L.r=.slice p s.scr.length cap/\LC w p s.scr.length cap 1 (ics s.scr)
 sm:∀g,L.m.ownBlock=some g->0<s.n->¬own b L g
 sf:∀g,L.f.ownBlock=some g->0<s.free.length->¬own b L g
 ss:∀g,L.s.ownBlock=some g->0<s.slots.length->¬own b L g
 sr:∀g,L.r.ownBlock=some g->0<s.scr.length->¬own b L g
 base:∀g,own b L g->N<=g
 tb:Tab w
 tb2:Tab2 w
 g1:1<N
 g2:0<N
 nN:N<=w.heap.size
structure St(N:Nat)(w:World)(b:Nat)(s:Cr)(L:Sls):Prop where
 row:w.heap[b]?=some (.cells (rowOf (kat s L) 339) 61 (0,0))
 its:Its N w b s L
structure To(b:Nat)(w:World)(L:Sls)(w':World)(L':Sls):Prop where
 os:w'.os=w.os
 tape:w'.tape=w.tape
 output:w'.output=w.output
 size:w.heap.size<=w'.heap.size
 block:∀g,g<w.heap.size->¬own b L g->w'.heap[g]?=w.heap[g]?
 fresh:∀g,own b L' g->own b L g\/w.heap.size<=g
theorem To.refl(b:Nat)(w:World)(L:Sls):To b w L w L:=⟨rfl,rfl,rfl,Nat.le_refl _,fun _ _ _=>rfl,fun _ h=>.inl h⟩
theorem To.trans{b:Nat}{w w1 w2:World}{L L1 L2:Sls}(h:To b w L w1 L1)(k:To b w1 L1 w2 L2):To b w L w2 L2:=by
 refine⟨k.os.trans h.os,k.tape.trans h.tape,k.output.trans h.output,Nat.le_trans h.size k.size,fun g hg hn=>?_,fun g hg=>?_⟩
 ·rw[k.block g (Nat.lt_of_lt_of_le hg h.size) (fun ho=>?_),h.block g hg hn]
  rcases h.fresh g ho with h'|h'
  ·exact hn h'
  ·omega
 ·rcases k.fresh g hg with h'|h'
  ·exact h.fresh g h'
  ·exact .inr (Nat.le_trans h.size h')
theorem ze{b:Nat}{w w':World}(L:Sls)(h:Below w.heap.size w w'):To b w L w' L:=⟨h.os,h.tape,h.output,h.size,fun g hg _=>h.block g hg,fun _ h=>.inl h⟩
theorem qR{N:Nat}{w:World}{b:Nat}{s:Cr}{L:Sls}(h:St N w b s L){g:Nat}(hg:own b L g):g<w.heap.size:=by
 rcases hg with rfl|hg|hg|hg
 ·exact(Array.getElem?_eq_some_iff.1 h.row).1
 ·obtain⟨cur,e⟩:=h.its.ic.block hg;exact(Array.getElem?_eq_some_iff.1 e).1
 ·obtain⟨cur,e⟩:=h.its.iu.block hg;exact(Array.getElem?_eq_some_iff.1 e).1
 ·obtain⟨cur,e⟩:=h.its.ia.block hg;exact(Array.getElem?_eq_some_iff.1 e).1
def upf(f:Nat->Value)(i:Nat)(v:Value):Nat->Value:=fun j=>if j=i then v else f j
def ups(f:Nat->Value)(o n:Nat)(g:Nat->Value):Nat->Value:=fun j=>if o<=j/\j<o+n then g (j-o)else f j
theorem heap_put{w:World}{b i:Nat}{cs:Array Value}{t:TypeId}{fr:Nat×Nat}{v:Value}(h:w.heap[b]?=some (.cells cs t fr)):(w.setCell ⟨b,i,none⟩ v).heap[b]?=some (.cells (cs.setIfInBounds i v) t fr):=Re.zI h
theorem zdA{w:World}{b i n:Nat}{f:Nat->Value}{t:TypeId}{fr:Nat×Nat}{v:Value}(h:w.heap[b]?=some (.cells (rowOf f n) t fr)):(w.setCell ⟨b,i,none⟩ v).heap[b]?=some (.cells (rowOf (upf f i v) n) t fr):=by
 rw[heap_put h,jS]
 rfl
theorem qc(w:World)(b o:Nat)(vs:List Value){g:Nat}(h:g≠b):(w.setCells b o vs).heap[g]?=w.heap[g]?:=by
 induction vs generalizing w o with
 |nil=>rfl
 |cons v vs ih=>
  show((w.setCell ⟨b,o,none⟩ v).setCells b (o+1) vs).heap[g]?=_
  rw[ih]
  exact Re.zK v h
theorem vr(w:World)(b o:Nat)(vs:List Value):(w.setCells b o vs).heap.size=w.heap.size:=by
 induction vs generalizing w o with
 |nil=>rfl
 |cons v vs ih=>
  show((w.setCell ⟨b,o,none⟩ v).setCells b (o+1) vs).heap.size=_
  rw[ih]
  simp
theorem zbq{b n:Nat}{t:TypeId}{fr:Nat×Nat}:∀(vs:List Value) {w:World} {o:Nat} {f:Nat->Value} (g:Nat->Value),(∀j u,vs[j]?=some u->u=g j)->w.heap[b]?=some (.cells (rowOf f n) t fr)->(w.setCells b o vs).heap[b]?=some (.cells (rowOf (ups f o vs.length g) n) t fr)
 |[],w,o,f,g,hg,h=>by
  show w.heap[b]?=_
  rw[h]
  congr 2
  refine qt fun i hi=>?_
  unfold ups
  rw[if_neg (by simp only[List.length_nil];omega)]
 |v::vs,w,o,f,g,hg,h=>by
  show((w.setCell ⟨b,o,none⟩ v).setCells b (o+1) vs).heap[b]?=_
  rw[zbq vs (fun j=>g (j+1)) (fun j u hj=>hg (j+1) u (by simpa using hj)) (zdA h)]
  congr 2
  refine qt fun i hi=>?_
  have h0:=hg 0 v rfl
  unfold ups upf
  rw[List.length_cons]
  by_cases e:i=o
  ·subst e
   rw[if_neg (by omega),if_pos rfl,if_pos (by omega),h0,Nat.sub_self]
  ·by_cases e2:o+1<=i/\i<o+1+vs.length
   ·rw[if_pos e2,if_pos (by omega),show i-o=i-(o+1)+1 by omega]
   ·rw[if_neg e2,if_neg e,if_neg (by omega)]
theorem jB{w:World}{b n o m:Nat}{f g:Nat->Value}{t:TypeId}{fr:Nat×Nat}(h:w.heap[b]?=some (.cells (rowOf f n) t fr))(hm:o+m<=n)(e:∀j,j<m->f (o+j)=g j):w.rangeAt b o (rowOf g m).toList:=fun j v hv=>by
 have hj:j<m:=by have:=(List.getElem?_eq_some_iff.1 hv).1;simpa[zf]using this
 rw[Array.getElem?_toList,zp g hj]at hv
 rw[cell_of_row _ _ _ _ _ _ h,zp f (by omega),e j hj]
 exact hv
theorem xm{w:World}{b n o m:Nat}{f:Nat->Value}{t:TypeId}(h:w.heap[b]?=some (.cells (rowOf f n) t (0,0)))(hm:o+m<=n):w.there b o m:=fun j hj=>by
 refine⟨?_,frozen_of_row _ _ _ _ _ h⟩
 rw[cell_of_row _ _ _ _ _ _ h,zp f (by omega)]
 rfl
theorem zb{w:World}{b n i:Nat}{f:Nat->Value}{t:TypeId}{fr:Nat×Nat}(h:w.heap[b]?=some (.cells (rowOf f n) t fr))(hi:i<n):w.cell? ⟨b,i,none⟩=some (f i):=by
 rw[cell_of_row _ _ _ _ _ _ h,zp f hi]
theorem qK{w w':World}{a:Option Addr}{n c size:Nat}{cs:List Value}(h:LC w a n c size cs)(hs:w.heap.size<=w'.heap.size)(hb:0<n->∀x,a=some x->w'.heap[x.block]?=w.heap[x.block]?):LC w' a n c size cs:=
 ⟨h.len,h.le,h.top,h.nil,h.one,fun x hx h0=>by
  have e:=hb h0 x hx
  obtain⟨b,o,rfl,hlt,hc⟩:=h.ad x hx h0
  exact⟨b,o,rfl,Nat.lt_of_lt_of_le hlt hs,fun j u hj=>(World.cell?_of_block (w:=w) (a:=⟨b,o+j,none⟩) e).trans (hc j u hj)⟩⟩
theorem zbr{w w':World}{a:Option Addr}{n c:Nat}{f:Nat->Int}(h:Re.Lie w a n c f)(hb:0<n->∀x,a=some x->w'.heap[x.block]?=w.heap[x.block]?):Re.Lie w' a n c f:=
 ⟨h.le,h.top,h.nil,h.wf,fun x hx h0=>by
  have e:=hb h0 x hx
  obtain⟨b,o,rfl,hc⟩:=h.ad x hx h0
  exact⟨b,o,rfl,fun i hi=>(World.cell?_of_block (w:=w) (a:=⟨b,o+i,none⟩) e).trans (hc i hi)⟩⟩
theorem xC{w w':World}{p:Option Addr}{n c:Nat}{f:Nat->Int}(h:Bys w p n c f)(hb:0<n->∀x,p=some x->w'.heap[x.block]?=w.heap[x.block]?):Bys w' p n c f:=
 ⟨h.hn,h.hnc,fun h0=>by
  obtain⟨g,o,rfl,hl⟩:=h.hm h0
  have e:=hb h0 _ rfl
  exact⟨g,o,rfl,fun i hi=>(World.cell?_of_block (w:=w) (a:=⟨g,o+i,none⟩) e).trans (hl i hi)⟩,h.hf⟩
theorem Its.mv{N:Nat}{w w':World}{b:Nat}{s:Cr}{L:Sls}(h:Its N w b s L)(hs:w.heap.size<=w'.heap.size)(h1:∀g,¬own b L g->g<w.heap.size->w'.heap[g]?=w.heap[g]?)
  (h2:∀g,(L.c.ownBlock=some g\/L.u.ownBlock=some g\/L.a.ownBlock=some g)->w'.heap[g]?=w.heap[g]?):Its N w' b s L:=by
 have lt:∀{g:Nat} {j:Nat} {v:Value},w.cell? ⟨g,j,none⟩=some v->g<w.heap.size:=fun hv=>World.block_lt_of_cell? _ _ hv
 obtain⟨pm,cm,em,hm⟩:=h.im
 obtain⟨pf,cf,ef,hf⟩:=h.ifr
 obtain⟨ps,cs,es,hsl⟩:=h.isl
 obtain⟨pr,cr,er,hr⟩:=h.ir
 have nT:1<w.heap.size:=h.tb.size
 have nT2:0<w.heap.size:=h.tb2.size
 have kT:w'.heap[1]?=w.heap[1]?:=h1 _ (fun ho=>by have:=h.base _ ho;have:=h.g1;omega) nT
 have kT2:w'.heap[0]?=w.heap[0]?:=h1 _ (fun ho=>by have:=h.base _ ho;have:=h.g2;omega) nT2
 refine⟨h.ic.move (fun g hg=>h2 g (.inl hg)),h.iu.move (fun g hg=>h2 g (.inr (.inl hg))),h.ia.move (fun g hg=>h2 g (.inr (.inr hg))),
  ⟨pm,cm,em,xC hm fun h0 x hx=>?_⟩,⟨pf,cf,ef,zbr hf fun h0 x hx=>?_⟩,⟨ps,cs,es,qK hsl hs fun h0 x hx=>?_⟩,⟨pr,cr,er,qK hr hs fun h0 x hx=>?_⟩,
  h.sm,h.sf,h.ss,h.sr,h.base,fun i hi=>(World.cell?_of_block (w:=w) (a:=⟨1,i,none⟩) kT).trans (h.tb i hi),fun i hi=>(World.cell?_of_block (w:=w) (a:=⟨0,i,none⟩) kT2).trans (h.tb2 i hi),h.g1,h.g2,Nat.le_trans h.nN hs⟩
 ·obtain⟨g,o,e,hl⟩:=hm.hm h0
  rw[hx]at e
  cases e
  exact h1 g (h.sm g (by rw[em,hx];rfl) h0) (lt (hl 0 h0))
 ·obtain⟨g,o,e,hl⟩:=hf.ad x hx h0
  subst e
  exact h1 g (h.sf g (by rw[ef,hx];rfl) h0) (lt (hl 0 h0))
 ·obtain⟨g,o,e,hlt,_⟩:=hsl.ad x hx h0
  subst e
  exact h1 g (h.ss g (by rw[es,hx];rfl) h0) hlt
 ·obtain⟨g,o,e,hlt,_⟩:=hr.ad x hx h0
  subst e
  exact h1 g (h.sr g (by rw[er,hx];rfl) h0) hlt
theorem Its.lt{N:Nat}{w:World}{b:Nat}{s:Cr}{L:Sls}(h:Its N w b s L){g:Nat}(hg:L.c.ownBlock=some g\/L.u.ownBlock=some g\/L.a.ownBlock=some g):g<w.heap.size:=by
 rcases hg with hg|hg|hg
 ·obtain⟨cur,e⟩:=h.ic.block hg;exact(Array.getElem?_eq_some_iff.1 e).1
 ·obtain⟨cur,e⟩:=h.iu.block hg;exact(Array.getElem?_eq_some_iff.1 e).1
 ·obtain⟨cur,e⟩:=h.ia.block hg;exact(Array.getElem?_eq_some_iff.1 e).1
theorem Its.below{N:Nat}{w w':World}{b:Nat}{s:Cr}{L:Sls}(h:Its N w b s L)(hb:Below w.heap.size w w'):Its N w' b s L:=
 h.mv hb.size (fun g _ hg=>hb.block g hg) (fun g hg=>hb.block g (h.lt hg))
theorem St.below{N:Nat}{w w':World}{b:Nat}{s:Cr}{L:Sls}(h:St N w b s L)(hb:Below w.heap.size w w'):St N w' b s L:=
 ⟨(hb.block b (Array.getElem?_eq_some_iff.1 h.row).1).trans h.row,h.its.below hb⟩
theorem Its.ne{N:Nat}{w:World}{b:Nat}{s:Cr}{L:Sls}(h:Its N w b s L){cs:Array Value}{fr:Nat×Nat}(row:w.heap[b]?=some (.cells cs 61 fr)){g:Nat}(hg:L.c.ownBlock=some g\/L.u.ownBlock=some g\/L.a.ownBlock=some g):g≠b:=fun e=>by
 subst e
 rcases hg with hg|hg|hg
 ·obtain⟨cur,e⟩:=h.ic.block hg;rw[row]at e;cases e
 ·obtain⟨cur,e⟩:=h.iu.block hg;rw[row]at e;cases e
 ·obtain⟨cur,e⟩:=h.ia.block hg;rw[row]at e;cases e
theorem Its.core{N:Nat}{w w':World}{b:Nat}{s:Cr}{L:Sls}(h:Its N w b s L){cs:Array Value}{fr:Nat×Nat}(row:w.heap[b]?=some (.cells cs 61 fr))(hs:w'.heap.size=w.heap.size)(hb:∀g,g≠b->w'.heap[g]?=w.heap[g]?):Its N w' b s L:=
 h.mv (by omega) (fun g hg _=>hb g (fun e=>hg (.inl e))) (fun g hg=>hb g (h.ne row hg))
theorem Its.put{N:Nat}{w:World}{b:Nat}{s:Cr}{L:Sls}(h:Its N w b s L){cs:Array Value}{fr:Nat×Nat}(row:w.heap[b]?=some (.cells cs 61 fr))(i:Nat)(v:Value):Its N (w.setCell ⟨b,i,none⟩ v) b s L:=
 h.core row (by simp) (fun g hg=>Re.zK v hg)
theorem Its.puts{N:Nat}{w:World}{b:Nat}{s:Cr}{L:Sls}(h:Its N w b s L){cs:Array Value}{fr:Nat×Nat}(row:w.heap[b]?=some (.cells cs 61 fr))(o:Nat)(vs:List Value):Its N (w.setCells b o vs) b s L:=
 h.core row (vr w b o vs) (fun g hg=>qc w b o vs hg)
theorem St.cell{N:Nat}{w:World}{b:Nat}{s:Cr}{L:Sls}{f:Nat->Value}(row:w.heap[b]?=some (.cells (rowOf f 339) 61 (0,0)))(its:Its N w b s L)(i:Nat)(v:Value)(hk:∀j,j<339->upf f i v j=kat s L j):St N (w.setCell ⟨b,i,none⟩ v) b s L:=
 ⟨by rw[zdA row,qt hk],its.put row i v⟩
theorem St.cells{N:Nat}{w:World}{b:Nat}{s:Cr}{L:Sls}{f g:Nat->Value}{n:Nat}(row:w.heap[b]?=some (.cells (rowOf f 339) 61 (0,0)))(its:Its N w b s L)(o:Nat)(hk:∀j,j<339->ups f o n g j=kat s L j):St N (w.setCells b o (rowOf g n).toList) b s L:=by
 refine⟨?_,its.puts row o _⟩
 have:=zbq (rowOf g n).toList (w:=w) (o:=o) (b:=b) (f:=f) (n:=339) g (fun j u hj=>?_) row
 ·rw[this]
  congr 2
  rw[show(rowOf g n).toList.length=n by simp[zf]]
  exact qt hk
 ·have hj':j<n:=by have:=(List.getElem?_eq_some_iff.1 hj).1;simpa[zf]using this
  rw[Array.getElem?_toList,zp g hj']at hj
  exact(Option.some.inj hj).symm
theorem zhO{b:Nat}{w w':World}{L L':Sls}(ho:w'.os=w.os)(ht:w'.tape=w.tape)(hp:w'.output=w.output)(hs:w'.heap.size=w.heap.size)(hb:∀g,g≠b->w'.heap[g]?=w.heap[g]?)(hf:∀g,own b L' g->own b L g\/w.heap.size<=g):To b w L w' L':=
 ⟨ho,ht,hp,by omega,fun g _ hg=>hb g (fun e=>hg (.inl e)),hf⟩
theorem zl3(s:Cr)(L:Sls)(x:Int):∀j,j<339->upf (kat s L) 40 (.int .i64 x) j=kat {s with cyc:=x} L j:=fun j _=>by
 simp only[upf,kat]
 by_cases e:j=40
 ·subst e;rfl
 ·simp[e]
theorem zl4(s:Cr)(L:Sls)(x:Int):∀j,j<339->upf (kat s L) 41 (.int .i64 x) j=kat {s with tak:=x} L j:=fun j _=>by
 simp only[upf,kat]
 by_cases e:j=41
 ·subst e;rfl
 ·simp[e]
theorem zl5(s:Cr)(L:Sls)(x:Int):∀j,j<339->upf (kat s L) 42 (.int .i64 x) j=kat {s with bck:=x} L j:=fun j _=>by
 simp only[upf,kat]
 by_cases e:j=42
 ·subst e;rfl
 simp only[e,if_false]
 by_cases h4:j<4
 ·simp only[h4,if_true,if_false]
 ·by_cases h39:j<39
  ·simp only[h4,h39,if_true,if_false]
  ·by_cases h43:j<43
   ·simp only[h4,h39,h43,if_true,if_false]
    have:j=39\/j=40\/j=41:=by omega
    rcases this with e|e|e<;>(subst e;rfl)
   ·by_cases h107:j<107
    ·simp only[h4,h39,h43,h107,if_true,if_false]
    ·by_cases h141:j<141
     ·simp only[h4,h39,h43,h107,h141,if_true,if_false]
     ·by_cases h237:j<237
      ·simp only[h4,h39,h43,h107,h141,h237,if_true,if_false]
      ·by_cases h333:j<333
       ·simp only[h4,h39,h43,h107,h141,h237,h333,if_true,if_false]
       ·simp only[h4,h39,h43,h107,h141,h237,h333,if_false]
theorem zl6(s:Cr)(L:Sls)(x:Int):∀j,j<339->upf (kat s L) 337 (.int .u32 x) j=kat {s with fro:=x} L j:=fun j _=>by
 simp only[upf,kat]
 by_cases e:j=337
 ·subst e;rfl
 ·simp[e]
theorem zl7(s:Cr)(L:Sls)(x:Bool):∀j,j<339->upf (kat s L) 338 (.bool x) j=kat {s with opn:=x} L j:=fun j _=>by
 simp only[upf,kat]
 by_cases e:j=338
 ·subst e;rfl
 simp only[e,if_false]
 by_cases h4:j<4
 ·simp only[h4,if_true,if_false]
 ·by_cases h39:j<39
  ·simp only[h4,h39,if_true,if_false]
  ·by_cases h43:j<43
   ·simp only[h4,h39,h43,if_true,if_false]
   ·by_cases h107:j<107
    ·simp only[h4,h39,h43,h107,if_true,if_false]
    ·by_cases h141:j<141
     ·simp only[h4,h39,h43,h107,h141,if_true,if_false]
     ·by_cases h237:j<237
      ·simp only[h4,h39,h43,h107,h141,h237,if_true,if_false]
      ·by_cases h333:j<333
       ·simp only[h4,h39,h43,h107,h141,h237,h333,if_true,if_false]
       ·simp only[h4,h39,h43,h107,h141,h237,h333,if_false]
        have:j=333\/j=334\/j=335\/j=336\/j=337:=by omega
        rcases this with e|e|e|e|e<;>(subst e;rfl)
theorem zpY(s:Cr)(L:Sls)(x:Value):∀j,j<339->upf (kat s L) 39 (x) j=kat s {L with m:=x} j:=fun j _=>by
 simp only[upf,kat]
 by_cases e:j=39
 ·subst e;rfl
 ·simp[e]
theorem zoB(s:Cr)(L:Sls)(x:Value):∀j,j<339->upf (kat s L) 333 (x) j=kat s {L with s:=x} j:=fun j _=>by
 simp only[upf,kat]
 by_cases e:j=333
 ·subst e;rfl
 ·simp[e]
theorem zoC(s:Cr)(L:Sls)(x:Value):∀j,j<339->upf (kat s L) 334 (x) j=kat s {L with u:=x} j:=fun j _=>by
 simp only[upf,kat]
 by_cases e:j=334
 ·subst e;rfl
 ·simp[e]
theorem zoD(s:Cr)(L:Sls)(x:Value):∀j,j<339->upf (kat s L) 335 (x) j=kat s {L with a:=x} j:=fun j _=>by
 simp only[upf,kat]
 by_cases e:j=335
 ·subst e;rfl
 ·simp[e]
theorem zoE(s:Cr)(L:Sls)(x:Value):∀j,j<339->upf (kat s L) 336 (x) j=kat s {L with r:=x} j:=fun j _=>by
 simp only[upf,kat]
 by_cases e:j=336
 ·subst e;rfl
 ·simp[e]
theorem zpZ(s:Cr)(L:Sls)(x:Value):∀j,j<339->upf (kat s L) 3 x j=kat s {L with c:=x} j:=fun j _=>by
 simp only[upf,kat]
 by_cases e:j=3
 ·subst e;rfl
 simp only[e,if_false]
 by_cases h4:j<4
 ·simp only[h4,if_true,if_false]
  have:j=0\/j=1\/j=2:=by omega
  rcases this with e|e|e<;>(subst e;rfl)
 ·by_cases h39:j<39
  ·simp only[h4,h39,if_true,if_false]
  ·by_cases h43:j<43
   ·simp only[h4,h39,h43,if_true,if_false]
   ·by_cases h107:j<107
    ·simp only[h4,h39,h43,h107,if_true,if_false]
    ·by_cases h141:j<141
     ·simp only[h4,h39,h43,h107,h141,if_true,if_false]
     ·by_cases h237:j<237
      ·simp only[h4,h39,h43,h107,h141,h237,if_true,if_false]
      ·by_cases h333:j<333
       ·simp only[h4,h39,h43,h107,h141,h237,h333,if_true,if_false]
       ·simp only[h4,h39,h43,h107,h141,h237,h333,if_false]
theorem zoF(s:Cr)(L:Sls)(x v:Int)(h0:0<=x)(h1:x<96):∀j,j<339->upf (kat s L) (141+x.toNat) (.int .u32 v) j=kat {s with wd:=upI s.wd x v} L j:=fun j _=>by
 simp only[upf,kat]
 by_cases e:j=141+x.toNat
 ·subst e
  rw[if_pos rfl,if_neg (by omega),if_neg (by omega),if_neg (by omega),if_neg (by omega),if_neg (by omega),if_pos (by omega)]
  unfold upI
  rw[if_pos (by omega)]
 simp only[e,if_false]
 by_cases h4:j<4
 ·simp only[h4,if_true,if_false]
 ·by_cases h39:j<39
  ·simp only[h4,h39,if_true,if_false]
  ·by_cases h43:j<43
   ·simp only[h4,h39,h43,if_true,if_false]
   ·by_cases h107:j<107
    ·simp only[h4,h39,h43,h107,if_true,if_false]
    ·by_cases h141:j<141
     ·simp only[h4,h39,h43,h107,h141,if_true,if_false]
     ·by_cases h237:j<237
      ·simp only[h4,h39,h43,h107,h141,h237,if_true,if_false]
       unfold upI
       rw[if_neg (by omega)]
      ·by_cases h333:j<333
       ·simp only[h4,h39,h43,h107,h141,h237,h333,if_true,if_false]
       ·simp only[h4,h39,h43,h107,h141,h237,h333,if_false]
theorem zoG(s:Cr)(L:Sls)(x:Int)(v:Bool)(h0:0<=x)(h1:x<96):∀j,j<339->upf (kat s L) (237+x.toNat) (.bool v) j=kat {s with th:=upB s.th x v} L j:=fun j _=>by
 simp only[upf,kat]
 by_cases e:j=237+x.toNat
 ·subst e
  rw[if_pos rfl,if_neg (by omega),if_neg (by omega),if_neg (by omega),if_neg (by omega),if_neg (by omega),if_neg (by omega),if_pos (by omega)]
  unfold upB
  rw[if_pos (by omega)]
 simp only[e,if_false]
 by_cases h4:j<4
 ·simp only[h4,if_true,if_false]
 ·by_cases h39:j<39
  ·simp only[h4,h39,if_true,if_false]
  ·by_cases h43:j<43
   ·simp only[h4,h39,h43,if_true,if_false]
   ·by_cases h107:j<107
    ·simp only[h4,h39,h43,h107,if_true,if_false]
    ·by_cases h141:j<141
     ·simp only[h4,h39,h43,h107,h141,if_true,if_false]
     ·by_cases h237:j<237
      ·simp only[h4,h39,h43,h107,h141,h237,if_true,if_false]
      ·by_cases h333:j<333
       ·simp only[h4,h39,h43,h107,h141,h237,h333,if_true,if_false]
        unfold upB
        rw[if_neg (by omega)]
       ·simp only[h4,h39,h43,h107,h141,h237,h333,if_false]
theorem zjS(s:Cr)(L:Sls)(R:Nat->Int)(pc st ca:Int):∀j,j<339->ups (kat s L) 4 35 (hat R pc st ca) j=kat {s with R:=R,pc:=pc,st:=st,ca:=ca} L j:=fun j _=>by
 simp only[ups,kat]
 by_cases e:4<=j/\j<4+35
 ·rw[if_pos e,if_neg (by omega),if_pos (by omega)]
 simp only[e,if_false]
 by_cases h4:j<4
 ·simp only[h4,if_true,if_false]
 ·by_cases h39:j<39
  ·simp only[h4,h39,if_true,if_false]
   omega
  ·by_cases h43:j<43
   ·simp only[h4,h39,h43,if_true,if_false]
   ·by_cases h107:j<107
    ·simp only[h4,h39,h43,h107,if_true,if_false]
    ·by_cases h141:j<141
     ·simp only[h4,h39,h43,h107,h141,if_true,if_false]
     ·by_cases h237:j<237
      ·simp only[h4,h39,h43,h107,h141,h237,if_true,if_false]
      ·by_cases h333:j<333
       ·simp only[h4,h39,h43,h107,h141,h237,h333,if_true,if_false]
       ·simp only[h4,h39,h43,h107,h141,h237,h333,if_false]
theorem zoH(s:Cr)(L:Sls)(t:Tb):∀j,j<339->ups (kat s L) 43 64 (tat t) j=kat {s with tb:=t} L j:=fun j _=>by
 simp only[ups,kat]
 by_cases e:43<=j/\j<43+64
 ·rw[if_pos e,if_neg (by omega),if_neg (by omega),if_neg (by omega),if_pos (by omega)]
 simp only[e,if_false]
 by_cases h4:j<4
 ·simp only[h4,if_true,if_false]
 ·by_cases h39:j<39
  ·simp only[h4,h39,if_true,if_false]
  ·by_cases h43:j<43
   ·simp only[h4,h39,h43,if_true,if_false]
   ·by_cases h107:j<107
    ·simp only[h4,h39,h43,h107,if_true,if_false]
     omega
    ·by_cases h141:j<141
     ·simp only[h4,h39,h43,h107,h141,if_true,if_false]
     ·by_cases h237:j<237
      ·simp only[h4,h39,h43,h107,h141,h237,if_true,if_false]
      ·by_cases h333:j<333
       ·simp only[h4,h39,h43,h107,h141,h237,h333,if_true,if_false]
       ·simp only[h4,h39,h43,h107,h141,h237,h333,if_false]
theorem zhP(s:Cr)(L:Sls)(r:Nat->Int)(v:Value)(fr:List Int):∀j,j<339->ups (kat s L) 107 34 (mat s.phys r v) j=kat {s with regs:=r,free:=fr} {L with f:=v} j:=fun j _=>by
 simp only[ups,kat]
 by_cases e:107<=j/\j<107+34
 ·rw[if_pos e,if_neg (by omega),if_neg (by omega),if_neg (by omega),if_neg (by omega),if_pos (by omega)]
 simp only[e,if_false]
 by_cases h4:j<4
 ·simp only[h4,if_true,if_false]
 ·by_cases h39:j<39
  ·simp only[h4,h39,if_true,if_false]
  ·by_cases h43:j<43
   ·simp only[h4,h39,h43,if_true,if_false]
   ·by_cases h107:j<107
    ·simp only[h4,h39,h43,h107,if_true,if_false]
    ·by_cases h141:j<141
     ·simp only[h4,h39,h43,h107,h141,if_true,if_false]
      omega
     ·by_cases h237:j<237
      ·simp only[h4,h39,h43,h107,h141,h237,if_true,if_false]
      ·by_cases h333:j<333
       ·simp only[h4,h39,h43,h107,h141,h237,h333,if_true,if_false]
       ·simp only[h4,h39,h43,h107,h141,h237,h333,if_false]
theorem zjT(s:Cr)(L:Sls):∀j,j<34->kat s L (107+j)=mat s.phys s.regs L.f j:=fun j hj=>by
 unfold kat
 rw[if_neg (by omega),if_neg (by omega),if_neg (by omega),if_neg (by omega),if_pos (by omega),Nat.add_sub_cancel_left]
theorem zp0(s:Cr)(L:Sls):∀j,j<64->kat s L (43+j)=tat s.tb j:=fun j hj=>by
 unfold kat
 rw[if_neg (by omega),if_neg (by omega),if_neg (by omega),if_pos (by omega),Nat.add_sub_cancel_left]
theorem zbs(s:Cr)(L:Sls):∀j,j<35->kat s L (4+j)=hat s.R s.pc s.st s.ca j:=fun j hj=>by
 unfold kat
 rw[if_neg (by omega),if_pos (by omega),Nat.add_sub_cancel_left]
theorem zoI(s:Cr)(L:Sls)(x:Int)(h0:0<=x)(h1:x<96):kat s L (237+x.toNat)=.bool (s.th x):=by
 unfold kat
 rw[if_neg (by omega),if_neg (by omega),if_neg (by omega),if_neg (by omega),if_neg (by omega),if_neg (by omega),if_pos (by omega),Nat.add_sub_cancel_left,Int.toNat_of_nonneg h0]
theorem kG(w:World)(b i:Nat)(v:Value):Below 0 w (w.setCell ⟨b,i,none⟩ v):=(Below.refl 0 w).setCell (p:=⟨b,i,none⟩) (Nat.zero_le _) v
theorem jT{b:Nat}(w:World){L L':Sls}(i:Nat)(v:Value)(hf:∀g,own b L' g->own b L g\/w.heap.size<=g):To b w L (w.setCell ⟨b,i,none⟩ v) L':=
 zhO (kG w b i v).os (kG w b i v).tape (kG w b i v).output (by simp) (fun g hg=>Re.zK v hg) hf
theorem ym(w:World)(b o:Nat)(vs:List Value):(w.setCells b o vs).os=w.os/\(w.setCells b o vs).tape=w.tape/\(w.setCells b o vs).output=w.output:=by
 induction vs generalizing w o with
 |nil=>exact⟨rfl,rfl,rfl⟩
 |cons v vs ih=>
  have:=ih (w.setCell ⟨b,o,none⟩ v) (o+1)
  have h2:=kG w b o v
  exact⟨this.1.trans h2.os,this.2.1.trans h2.tape,this.2.2.trans h2.output⟩
theorem zdB{b:Nat}(w:World){L L':Sls}(o:Nat)(vs:List Value)(hf:∀g,own b L' g->own b L g\/w.heap.size<=g):To b w L (w.setCells b o vs) L':=
 zhO (ym w b o vs).1 (ym w b o vs).2.1 (ym w b o vs).2.2 (vr w b o vs) (fun g hg=>qc w b o vs hg) hf
theorem Its.setR{N:Nat}{w:World}{b:Nat}{s:Cr}{L:Sls}(h:Its N w b s L){v:Value}{l:List Int}(hr:∃p cap,v=.slice p l.length cap/\LC w p l.length cap 1 (ics l))(hs:∀g,v.ownBlock=some g->0<l.length->¬own b L g):Its N w b {s with scr:=l} {L with r:=v}:=
 ⟨h.ic,h.iu,h.ia,h.im,h.ifr,h.isl,hr,h.sm,h.sf,h.ss,hs,h.base,h.tb,h.tb2,h.g1,h.g2,h.nN⟩
theorem Its.setS{N:Nat}{w:World}{b:Nat}{s:Cr}{L:Sls}(h:Its N w b s L){v:Value}{l:List Sl}(hr:∃p cap,v=.slice p l.length cap/\LC w p l.length cap 2 (scs l))(hs:∀g,v.ownBlock=some g->0<l.length->¬own b L g):Its N w b {s with slots:=l} {L with s:=v}:=
 ⟨h.ic,h.iu,h.ia,h.im,h.ifr,hr,h.ir,h.sm,h.sf,hs,h.sr,h.base,h.tb,h.tb2,h.g1,h.g2,h.nN⟩
theorem Its.setF{N:Nat}{w:World}{b:Nat}{s:Cr}{L:Sls}(h:Its N w b s L){v:Value}{l:List Int}(r:Nat->Int)(hr:∃p cap,v=.slice p l.length cap/\Re.Lie w p l.length cap (fun i=>l.getD i 0))(hs:∀g,v.ownBlock=some g->0<l.length->¬own b L g):Its N w b {s with regs:=r,free:=l} {L with f:=v}:=
 ⟨h.ic,h.iu,h.ia,h.im,hr,h.isl,h.ir,h.sm,hs,h.ss,h.sr,h.base,h.tb,h.tb2,h.g1,h.g2,h.nN⟩
theorem Its.setM{N:Nat}{w:World}{b:Nat}{s:Cr}{L:Sls}(h:Its N w b s L){v:Value}{f:Nat->Int}(hr:∃p cap,v=.slice p s.n cap/\Bys w p s.n cap f)(hs:∀g,v.ownBlock=some g->0<s.n->¬own b L g):Its N w b {s with f:=f} {L with m:=v}:=
 ⟨h.ic,h.iu,h.ia,hr,h.ifr,h.isl,h.ir,hs,h.sf,h.ss,h.sr,h.base,h.tb,h.tb2,h.g1,h.g2,h.nN⟩
theorem qn{b:Nat}{w:World}{L L':Sls}(hf:∀g,own b L' g->own b L g\/w.heap.size<=g){g:Nat}(hg:¬own b L g)(hl:g<w.heap.size):¬own b L' g:=fun h=>by
 rcases hf g h with h|h
 ·exact hg h
 ·omega
theorem Its.blk{N:Nat}{w:World}{b:Nat}{s:Cr}{L:Sls}(h:Its N w b s L):(∀g,L.m.ownBlock=some g->0<s.n->g<w.heap.size)/\(∀g,L.f.ownBlock=some g->0<s.free.length->g<w.heap.size)/\(∀g,L.s.ownBlock=some g->0<s.slots.length->g<w.heap.size)/\(∀g,L.r.ownBlock=some g->0<s.scr.length->g<w.heap.size):=by
 obtain⟨pm,cm,em,hm⟩:=h.im
 obtain⟨pf,cf,ef,hf⟩:=h.ifr
 obtain⟨ps,cs,es,hsl⟩:=h.isl
 obtain⟨pr,cr,er,hr⟩:=h.ir
 have ob:∀{p:Option Addr} {n c g:Nat},(Value.slice p n c).ownBlock=some g->∃x,p=some x/\x.block=g:=fun{p n c g} e=>by
  cases p with
  |none=>cases e
  |some x=>exact⟨x,rfl,Option.some.inj e⟩
 refine⟨fun g hg h0=>?_,fun g hg h0=>?_,fun g hg h0=>?_,fun g hg h0=>?_⟩
 ·rw[em]at hg
  obtain⟨x,hx,rfl⟩:=ob hg
  obtain⟨g,o,e,hl⟩:=hm.hm h0
  rw[hx]at e
  cases e
  exact World.block_lt_of_cell? _ _ (hl 0 h0)
 ·rw[ef]at hg
  obtain⟨x,hx,rfl⟩:=ob hg
  obtain⟨g,o,e,hl⟩:=hf.ad x hx h0
  subst e
  exact World.block_lt_of_cell? _ _ (hl 0 h0)
 ·rw[es]at hg
  obtain⟨x,hx,rfl⟩:=ob hg
  obtain⟨g,o,e,hlt,_⟩:=hsl.ad x hx h0
  subst e
  exact hlt
 ·rw[er]at hg
  obtain⟨x,hx,rfl⟩:=ob hg
  obtain⟨g,o,e,hlt,_⟩:=hr.ad x hx h0
  subst e
  exact hlt
theorem Its.own{N:Nat}{w w':World}{b:Nat}{s:Cr}{L L':Sls}(h:Its N w b s L)(hT:To b w L w' L')(hm:L'.m=L.m)(hf:L'.f=L.f)(hs:L'.s=L.s)(hr:L'.r=L.r){co:List Cm}{un:List Dg}{ak:List Ac}
  (hc:Us w' 64 11 L'.c co.length (flat cml co)) (hu:Us w' 97 28 L'.u un.length (flat dgl un)) (ha:Us w' 100 7 L'.a ak.length (flat cel ak)):Its N w' b {s with coms:=co,under:=un,asked:=ak} L':=by
 obtain⟨b1,b2,b3,b4⟩:=h.blk
 have nT:1<w.heap.size:=h.tb.size
 have nT2:0<w.heap.size:=h.tb2.size
 have kT:w'.heap[1]?=w.heap[1]?:=hT.block _ nT (fun ho=>by have:=h.base _ ho;have:=h.g1;omega)
 have kT2:w'.heap[0]?=w.heap[0]?:=hT.block _ nT2 (fun ho=>by have:=h.base _ ho;have:=h.g2;omega)
 obtain⟨pm,cm,em,hm'⟩:=h.im
 obtain⟨pf,cf,ef,hf'⟩:=h.ifr
 obtain⟨ps,cs,es,hs'⟩:=h.isl
 obtain⟨pr,cr,er,hr'⟩:=h.ir
 have ow:∀{p:Option Addr} {n c:Nat} {x:Addr},p=some x->(Value.slice p n c).ownBlock=some x.block:=fun e=>by rw[e];rfl
 refine⟨hc,hu,ha,⟨pm,cm,hm.trans em,xC hm' fun h0 x hx=>?_⟩,⟨pf,cf,hf.trans ef,zbr hf' fun h0 x hx=>?_⟩,⟨ps,cs,hs.trans es,qK hs' hT.size fun h0 x hx=>?_⟩,⟨pr,cr,hr.trans er,qK hr' hT.size fun h0 x hx=>?_⟩,
  fun g hg h0=>?_,fun g hg h0=>?_,fun g hg h0=>?_,fun g hg h0=>?_,fun g hg=>?_,fun i hi=>(World.cell?_of_block (w:=w) (a:=⟨1,i,none⟩) kT).trans (h.tb i hi),fun i hi=>(World.cell?_of_block (w:=w) (a:=⟨0,i,none⟩) kT2).trans (h.tb2 i hi),h.g1,h.g2,Nat.le_trans h.nN hT.size⟩
 ·have e:=ow (n:=s.n) (c:=cm) hx
  exact hT.block _ (b1 _ (em▸e) h0) (h.sm _ (em▸e) h0)
 ·have e:=ow (n:=s.free.length) (c:=cf) hx
  exact hT.block _ (b2 _ (ef▸e) h0) (h.sf _ (ef▸e) h0)
 ·have e:=ow (n:=s.slots.length) (c:=cs) hx
  exact hT.block _ (b3 _ (es▸e) h0) (h.ss _ (es▸e) h0)
 ·have e:=ow (n:=s.scr.length) (c:=cr) hx
  exact hT.block _ (b4 _ (er▸e) h0) (h.sr _ (er▸e) h0)
 ·rw[hm]at hg;exact qn hT.fresh (h.sm g hg h0) (b1 g hg h0)
 ·rw[hf]at hg;exact qn hT.fresh (h.sf g hg h0) (b2 g hg h0)
 ·rw[hs]at hg;exact qn hT.fresh (h.ss g hg h0) (b3 g hg h0)
 ·rw[hr]at hg;exact qn hT.fresh (h.sr g hg h0) (b4 g hg h0)
 ·rcases hT.fresh g hg with h'|h'
  ·exact h.base g h'
  ·have:=h.nN;omega
theorem zfL(i:In)(w:World):Calls prog 78 #[ivI i] w fun e w'=>e=.returned (.int .i64 (gvs i))/\Below w.heap.size w w':=by
 obtain⟨op,rd,s1,s2,I⟩:=i
 unfold gvs
 simp only[]
 by_cases h:op=46
 ·subst h
  go_enter func78,ntmps78
  go_wp2
  go_ret
  exact⟨rfl,(Below.refl _ _).alloc (Nat.le_refl _) _⟩
 ·have hq:(op==46)=false:=beq_eq_false_iff_ne.2 h
  rw[if_neg h]
  go_enter func78,ntmps78
  go_wp2
  go_ret
  exact⟨rfl,(Below.refl _ _).alloc (Nat.le_refl _) _⟩
theorem vt(i:In)(w:World):Calls prog 101 #[ivI i] w fun e w'=>e=.returned (.bool (sts i))/\Below w.heap.size w w':=by
 obtain⟨op,rd,s1,s2,I⟩:=i
 unfold sts
 simp only[]
 go_enter func101,ntmps101
 go_wp2
 all_goals(go_ret;refine⟨?_,(Below.refl _ _).alloc (Nat.le_refl _) _⟩;simp_all;try omega)
theorem zaz(i:In)(w:World):Calls prog 91 #[ivI i] w fun e w'=>e=.returned (.bool (trn i))/\Below w.heap.size w w':=by
 obtain⟨op,rd,s1,s2,I⟩:=i
 unfold trn
 simp only[]
 go_enter func91,ntmps91
 go_wp2
 all_goals(go_ret;refine⟨?_,(Below.refl _ _).alloc (Nat.le_refl _) _⟩;simp_all;try omega)
theorem jZ(x a b:Int)(w:World):Calls prog 17 #[.int .i64 x,.int .i64 a,.int .i64 b] w fun e w'=>e=.returned (.bool (decide (a<=x/\x<=b)))/\w'=w:=by
 go_enter func17,ntmps17
 go_wp2
 all_goals(go_ret;refine⟨?_,rfl⟩;simp_all;try omega)
def mayC(win phys wide:Int):Bool:=decide (1<=win/\win<=32)&&decide (33<=phys/\phys<=96)&&decide (1<=wide/\wide<=4)
theorem zjU(win phys wide:Int)(w:World):Calls prog 15 #[.agg #[.int .i64 win,.int .i64 phys,.int .i64 wide]] w fun e w'=>e=.returned (.bool (mayC win phys wide))/\Below w.heap.size w w':=by
 unfold mayC
 obtain⟨a,ha⟩:∃a,a=decide (1<=win/\win<=32):=⟨_,rfl⟩
 obtain⟨b,hb⟩:∃a,a=decide (33<=phys/\phys<=96):=⟨_,rfl⟩
 obtain⟨c,hc⟩:∃a,a=decide (1<=wide/\wide<=4):=⟨_,rfl⟩
 have C1:=fun w=>jZ win 1 32 w
 have C2:=fun w=>jZ phys 33 96 w
 have C3:=fun w=>jZ wide 1 4 w
 rw[<-ha]at C1⊢
 rw[<-hb]at C2⊢
 rw[<-hc]at C3⊢
 clear ha hb hc
 cases a with
 |false=>
  go_enter func15,ntmps15
  go_wp2_with fail
  refine(C1 _).mono ?_
  rintro e w' ⟨rfl,rfl⟩
  go_wp2
  go_ret
  exact⟨rfl,(Below.refl _ _).alloc (Nat.le_refl _) _⟩
 |true=>
  cases b with
  |false=>
   go_enter func15,ntmps15
   go_wp2_with fail
   refine(C1 _).mono ?_
   rintro e w' ⟨rfl,rfl⟩
   go_wp2_with fail
   refine(C2 _).mono ?_
   rintro e w' ⟨rfl,rfl⟩
   go_wp2
   go_ret
   exact⟨rfl,(Below.refl _ _).alloc (Nat.le_refl _) _⟩
  |true=>
   go_enter func15,ntmps15
   go_wp2_with fail
   refine(C1 _).mono ?_
   rintro e w' ⟨rfl,rfl⟩
   go_wp2_with fail
   refine(C2 _).mono ?_
   rintro e w' ⟨rfl,rfl⟩
   go_wp2_with fail
   refine(C3 _).mono ?_
   rintro e w' ⟨rfl,rfl⟩
   go_wp2
   go_ret
   exact⟨rfl,(Below.refl _ _).alloc (Nat.le_refl _) _⟩
end Go.Proofs.YtpiohehijkpghabGreatDoor.Co
