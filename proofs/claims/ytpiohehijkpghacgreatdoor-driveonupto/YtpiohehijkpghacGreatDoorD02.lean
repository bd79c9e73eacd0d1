/- words, set, become and choose of a player: the program. -/
import Derived.Lib.ItoaLen
import Derived.Test.YtpiohehijkpghacGreatDoorD01
open Array renaming getElem?_eq_none->Ao
open Go renaming cell_of_row->Ab,frozen_of_row->Ar
open Go.Lib renaming itoa_length_le->Aj,itoa->An,strCells->Ax
open Go.RowKit.Below renaming refl->Ae
open Go.Value renaming ownBlock->Au
open Go.World renaming setCell->Av
open List renaming length_append->Ad,getElem?_eq_some_iff->Af,length_cons->Ah,mem_cons->Ak,getElem?_eq_getElem->Al,getLast?_cons_cons->Am,mem_append->Ap,mem_of_getElem?->Aq,take_add_one->As,length_take->At,mem_map->Aw
open Nat renaming lt_of_lt_of_le->Aa,le_trans->Ac,le_refl->Ag,mul_le_mul_right->Ai,zero_le->Ay
set_option maxHeartbeats 2000000
set_option maxRecDepth 20000
set_option linter.unusedSimpArgs false
set_option linter.unusedVariables false
open Go.Proofs.Tryz
namespace Go.Proofs.YtpiohehijkpghacGreatDoor.Dr
open Go.RowKit
def valL:Nat->List UInt8->Option Nat
 |a,[]=>some a
 |a,c::r=>if 48<=c.toNat/\c.toNat<=57 then valL (a*10+(c.toNat-48)) r else none
theorem zf2:∀(l:List UInt8) (a u:Nat),valL a l=some u->a*10^l.length<=u
 |[],a,u,h=>by
  cases h
  simp
 |c::r,a,u,h=>by
  unfold valL at h
  split at h
  ·have:=zf2 r _ u h
   have e:a*10^(c::r).length=(a*10)*10^r.length:=by rw[Ah,Nat.pow_succ];rw[Nat.mul_comm (10^r.length) 10,Nat.mul_assoc]
   rw[e]
   exact Ac (Ai _ (Nat.le_add_right _ _)) this
  ·cases h
theorem zkH:∀(l:List UInt8) (a:Nat) (c:UInt8),valL a (l++[c])=(valL a l).bind fun u=>if 48<=c.toNat/\c.toNat<=57 then some (u*10+(c.toNat-48))else none
 |[],a,c=>rfl
 |x::l,a,c=>by
  show(if 48<=x.toNat/\x.toNat<=57 then valL (a*10+(x.toNat-48)) (l++[c])else none)=(if 48<=x.toNat/\x.toNat<=57 then valL (a*10+(x.toNat-48)) l else none).bind _
  split
  ·exact zkH l _ c
  ·rfl
theorem zmO:∀(l:List UInt8) (a u:Nat),valL a l=some u->u<(a+1)*10^l.length
 |[],a,u,h=>by
  cases h
  simp
 |c::r,a,u,h=>by
  unfold valL at h
  split at h
  ·have:=zmO r _ u h
   have e:(a+1)*10^(c::r).length=(a*10+10)*10^r.length:=by rw[Ah,Nat.pow_succ,Nat.mul_comm (10^r.length) 10,<-Nat.mul_assoc,Nat.add_mul]
   rw[e]
   exact Aa this (Ai _ (by omega))
  ·cases h
theorem zbw:∀(l:List UInt8) (a:Nat),a<=4294967295->(match Lib.parseUintM 4294967295 a l with|.ok u=>some u|_=>none)=match valL a l with|some u=>if u<4294967296 then some u else none|none=>none
 |[],a,h=>by
  show some a=if a<4294967296 then some a else none
  rw[if_pos (by omega)]
 |c::r,a,h=>by
  unfold Lib.parseUintM valL
  by_cases hd:48<=c.toNat/\c.toNat<=57
  ·rw[if_pos hd,if_pos hd,if_neg (by omega)]
   by_cases hM:4294967295<a*10+(c.toNat-48)
   ·rw[if_pos hM]
    cases hv:valL (a*10+(c.toNat-48)) r with
    |none=>rfl
    |some u=>
     have h1:=zf2 r _ u hv
     have h2:1<=10^r.length:=Nat.one_le_pow _ _ (by decide)
     have h3:(a*10+(c.toNat-48))*1<=(a*10+(c.toNat-48))*10^r.length:=Nat.mul_le_mul_left _ h2
     show none=if u<4294967296 then some u else none
     rw[if_neg (by omega)]
   ·rw[if_neg hM]
    exact zbw r _ (by omega)
  ·rw[if_neg hd,if_neg hd]
def numK(t:List UInt8):Option Nat:=if t.length<1\/10<t.length\/(1<t.length/\t.head?=some 48)then none else match valL 0 t with
 |some u=>if u<4294967296 then some u else none
 |none=>none
theorem zf3(t:List UInt8):numK t=xD t:=by
 unfold numK xD Lib.parseUintB
 by_cases hz:1<t.length/\t.head?=some 48
 ·rw[if_pos (.inr (.inr hz)),if_pos hz]
 ·rw[if_neg hz]
  rcases t with _|⟨c,r⟩
  ·rw[if_pos (.inl (by simp)),if_pos rfl]
  ·rw[if_neg (show¬(c::r=[]) by simp)]
   have hp:=zbw (c::r) 0 (by omega)
   rw[show(2^32-1:Nat)=4294967295 by decide]
   refine Eq.trans ?_ hp.symm
   by_cases hl:10<(c::r).length
   ·rw[if_pos (.inr (.inl hl))]
    cases hv:valL 0 (c::r)with
    |none=>rfl
    |some u=>
     show none=if u<4294967296 then some u else none
     refine(if_neg ?_).symm
     unfold valL at hv
     split at hv
     ·rename_i hd
      have h1:=zf2 r _ u hv
      have hc:c.toNat≠48:=fun e=>hz ⟨by omega,by
       have:c=48:=UInt8.toNat_inj.1 e
       rw[this];rfl⟩
      have hr:10<=r.length:=by simp at hl;omega
      have h2:10^10<=10^r.length:=Nat.pow_le_pow_right (by decide) hr
      have h3:1*10^r.length<=(0*10+(c.toNat-48))*10^r.length:=Ai _ (by omega)
      have h4:(10:Nat)^10=10000000000:=by decide
      omega
     ·cases hv
   ·rw[if_neg (fun h=>h.elim (fun h=>by simp at h) fun h=>h.elim hl hz)]
theorem zim{t:List UInt8}{u:Nat}(h:xD t=some u):u<4294967296:=by
 rw[<-zf3]at h
 unfold numK at h
 split at h
 ·cases h
 ·split at h
  ·split at h
   ·cases h;assumption
   ·cases h
  ·cases h
def zH(c:UInt8):List UInt8->List (List UInt8)
 |[]=>[[]]
 |x::l=>if x=c then[]::zH c l else match zH c l with
  |y::m=>(x::y)::m
  |[]=>[[x]]
theorem zdS(c:UInt8):∀l,zH c l≠[]
 |[]=>by simp[zH]
 |x::l=>by
  unfold zH
  split
  ·simp
  ·split<;>simp
theorem yL(c:UInt8):∀l,zH c l=(cutL c l).1::if(cutL c l).2.2 then zH c (cutL c l).2.1 else[]
 |[]=>rfl
 |x::l=>by
  have h1:zH c (x::l)=if x=c then[]::zH c l else match zH c l with|z::m=>(x::z)::m|[]=>[[x]]:=rfl
  have h2:cutL c (x::l)=if x=c then([],l,true)else(x::(cutL c l).1,(cutL c l).2.1,(cutL c l).2.2):=rfl
  rw[h1,h2]
  by_cases e:x=c
  ·rw[if_pos e,if_pos e]
   rfl
  ·rw[if_neg e,if_neg e,yL c l]
theorem zf4(c:UInt8):∀(l:List UInt8) (x:UInt8),zH c (l++[x])=if x=c then zH c l++[[]]else(zH c l).dropLast++[((zH c l).getLast?.getD [])++[x]]
 |[],x=>by
  show zH c [x]=_
  unfold zH
  by_cases e:x=c
  ·rw[if_pos e,if_pos e];rfl
  ·rw[if_neg e,if_neg e];rfl
 |y::l,x=>by
  show zH c (y::(l++[x]))=_
  have ih:=zf4 c l x
  have hne:=zdS c l
  have h1:zH c (y::(l++[x]))=if y=c then[]::zH c (l++[x])else match zH c (l++[x])with|z::m=>(y::z)::m|[]=>[[y]]:=rfl
  have h2:zH c (y::l)=if y=c then[]::zH c l else match zH c l with|z::m=>(y::z)::m|[]=>[[y]]:=rfl
  rw[h1,h2,ih]
  cases hs:zH c l with
  |nil=>exact absurd hs hne
  |cons z m=>
   by_cases e:x=c
   ·simp only[if_pos e]
    by_cases ey:y=c
    ·simp[ey]
    ·simp[ey]
   ·simp only[if_neg e]
    by_cases ey:y=c
    ·simp only[if_pos ey]
     cases m with
     |nil=>rfl
     |cons z2 m2=>simp[Am]
    ·simp only[if_neg ey]
     cases m with
     |nil=>rfl
     |cons z2 m2=>simp[Am]
structure Ps where
 R:Nat->Int
 pc:Int
 mem:List Int
 wi:Int
 ph:Int
 wd:Int
 ch:List Int
structure Ou where
 er:Int
 many:Nat
 st:Int
 ca:Int
 pc:Int
 told:List Int
def tOk:List UInt8:=[111,107]
def jz:List UInt8:=[63]
def ranL(o:Ou):List UInt8:=if o.er=0 then zx (zx (An o.many) [o.st,o.ca]) (o.pc::o.told)else zx [98,97,100] [o.er]
def yM(x:Nat):List Int:=[((x%256:Nat):Int),((x/256%256:Nat):Int),((x/65536%256:Nat):Int),((x/16777216%256:Nat):Int)]
def addL(m:List Int)(ns:List Nat):List Int:=m++ns.flatMap yM
def one?(ns:List Nat):Option Nat:=match ns with
 |[x]=>some x
 |_=>none
def two?(ns:List Nat):Option (Nat×Nat):=match ns with
 |[x,y]=>some (x,y)
 |_=>none
def tri?(ns:List Nat):Option (Nat×Nat×Nat):=match ns with
 |[x,y,z]=>some (x,y,z)
 |_=>none
section
variable (mo co:Ps->Nat->Ou) (wh:Nat->List UInt8) (may:Int->Int->Int->Bool)
def cmdL(p:Ps)(w:List UInt8)(ns:List Nat):Ps×List UInt8:=
 if w=[119,111,114,100,115]then(if 4096<p.mem.length+4*ns.length then(p,jz)else({p with mem:=addL p.mem ns},zx tOk [((p.mem.length+4*ns.length:Nat):Int)]))
 else if w=[112,99]then(match one? ns with
  |some x=>({p with pc:=x},tOk)
  |none=>(p,jz))
 else if w=[115,101,116]then(match two? ns with
  |some (r,x)=>if 1<=r/\r<=31 then({p with R:=fun i=>if i=r then(x:Int)else p.R i},tOk)else(p,jz)
  |none=>(p,jz))
 else if w=[99,111,114,101]then(match tri? ns with
  |some (a,b,c)=>if may a b c=true then({p with wi:=a,ph:=b,wd:=c},tOk)else(p,jz)
  |none=>(p,jz))
 else if w=[99,104,111,111,115,101]then({p with ch:=ns.map fun(n:Nat)=>(n:Int)},zx tOk [(ns.length:Int)])
 else if w=[109,111,100,101,108]then(match one? ns with
  |some x=>(p,ranL (mo p x))
  |none=>(p,jz))
 else if w=[114,117,110]then(match one? ns with
  |some x=>(p,ranL (co p x))
  |none=>(p,jz))
 else if w=[119,104,97,116]then(match one? ns with
  |some x=>(p,wh x)
  |none=>(p,jz))
 else(p,jz)
def qL(p:Ps)(s:List UInt8):Ps×List UInt8:=match numsL ((cutL 32 s).2.1.length+2) (cutL 32 s).2.1 (cutL 32 s).2.2 with
 |none=>(p,jz)
 |some ns=>cmdL mo co wh may p (cutL 32 s).1 ns
end
def ps0:Ps:=⟨fun _=>0,0,[],8,64,2,[]⟩
theorem zdT(t:List UInt8)(a b:List Int):zx (zx t a) b=zx t (a++b):=by simp[zx]
theorem zcz(m:List Int):∀ns,(addL m ns).length=m.length+4*ns.length:=fun ns=>by
 unfold addL
 rw[Ad]
 have:∀l:List Nat,(l.flatMap yM).length=4*l.length:=fun l=>by
  induction l with
  |nil=>rfl
  |cons x l ih=>rw[List.flatMap_cons,Ad,ih];simp[yM];omega
 rw[this]
theorem zkI(m:List Int)(ns:List Nat)(x:Nat):addL m (ns++[x])=addL m ns++yM x:=by simp[addL]
theorem zio(x:Nat):∀b∈yM x,0<=b/\b<=255:=fun b hb=>by
 simp only[yM,Ak,List.not_mem_nil,or_false]at hb
 omega
theorem zkJ{m:List Int}(hm:∀b∈m,0<=b/\b<=255)(ns:List Nat):∀b∈addL m ns,0<=b/\b<=255:=fun b hb=>by
 unfold addL at hb
 rcases Ap.1 hb with h|h
 ·exact hm b h
 ·obtain⟨x,_,hx⟩:=List.mem_flatMap.1 h
  exact zio x b hx
structure POk(may:Int->Int->Int->Bool)(p:Ps):Prop where
 r0:p.R 0=0
 hR:∀i,0<=p.R i/\p.R i<=4294967295
 p0:0<=p.pc/\p.pc<=4294967295
 hm:p.mem.length<=4096
 hb:∀b∈p.mem,0<=b/\b<=255
 hc:may p.wi p.ph p.wd=true
 hch:∀b∈p.ch,0<=b/\b<=4294967295
 hcl:p.ch.length<=3000000
theorem zmP{mo co:Ps->Nat->Ou}{wh:Nat->List UInt8}{may:Int->Int->Int->Bool}{p:Ps}(h:POk may p)(w:List UInt8)(ns:List Nat)(hns:∀n∈ns,n<4294967296)(hnl:ns.length<=3000000):POk may (cmdL mo co wh may p w ns).1:=by
 obtain⟨r0,hR,p0,hm,hb,hc,hch,hcl⟩:=h
 unfold cmdL
 split
 ·split
  ·exact⟨r0,hR,p0,hm,hb,hc,hch,hcl⟩
  ·refine⟨r0,hR,p0,?_,zkJ hb ns,hc,hch,hcl⟩
   show(addL p.mem ns).length<=4096
   rw[zcz]
   omega
 split
 ·unfold one?
  split
  ·rename_i x hx
   split at hx
   ·have:=hns x (by cases hx;simp)
    exact⟨r0,hR,⟨by show(0:Int)<=(x:Int);omega,by show(x:Int)<=_;omega⟩,hm,hb,hc,hch,hcl⟩
   ·cases hx
  ·exact⟨r0,hR,p0,hm,hb,hc,hch,hcl⟩
 split
 ·unfold two?
  split
  ·rename_i r x hx
   split at hx
   ·cases hx
    split
    ·have:=hns x (by simp)
     refine⟨?_,fun i=>?_,p0,hm,hb,hc,hch,hcl⟩
     ·show(if 0=r then(x:Int)else p.R 0)=0
      rw[if_neg (by omega)]
      exact r0
     ·show 0<=(if i=r then(x:Int)else p.R i)/\(if i=r then(x:Int)else p.R i)<=_
      split
      ·omega
      ·exact hR i
    ·exact⟨r0,hR,p0,hm,hb,hc,hch,hcl⟩
   ·cases hx
  ·exact⟨r0,hR,p0,hm,hb,hc,hch,hcl⟩
 split
 ·split
  ·split
   ·rename_i hmay
    exact⟨r0,hR,p0,hm,hb,hmay,hch,hcl⟩
   ·exact⟨r0,hR,p0,hm,hb,hc,hch,hcl⟩
  ·exact⟨r0,hR,p0,hm,hb,hc,hch,hcl⟩
 split
 ·refine⟨r0,hR,p0,hm,hb,hc,fun b hb'=>?_,by simpa using hnl⟩
  obtain⟨n,hn,rfl⟩:=Aw.1 hb'
  have:=hns n hn
  omega
 all_goals repeat' split
 all_goals exact⟨r0,hR,p0,hm,hb,hc,hch,hcl⟩
theorem yr:∀(k:Nat) (t:List UInt8) (b:Bool) (ns:List Nat),numsL k t b=some ns->∀n∈ns,n<4294967296
 |0,t,b,ns,h=>by cases h
 |k+1,t,b,ns,h=>by
  unfold numsL at h
  split at h
  ·cases h
   simp
  ·split at h
   ·cases h
   ·rename_i n hn
    cases hm:numsL k (cutL 32 t).2.1 (cutL 32 t).2.2 with
    |none=>rw[hm]at h;cases h
    |some l=>
     rw[hm]at h
     cases h
     intro x hx
     rcases Ak.1 hx with rfl|hx
     ·exact zim hn
     ·exact yr k _ _ l hm x hx
theorem yt:∀(k:Nat) (t:List UInt8) (b:Bool) (ns:List Nat),numsL k t b=some ns->ns.length<=t.length+1
 |0,t,b,ns,h=>by cases h
 |k+1,t,b,ns,h=>by
  unfold numsL at h
  split at h
  ·cases h
   simp
  ·split at h
   ·cases h
   ·rename_i n hn
    cases hm:numsL k (cutL 32 t).2.1 (cutL 32 t).2.2 with
    |none=>rw[hm]at h;cases h
    |some l=>
     rw[hm]at h
     cases h
     have h1:=yt k _ _ l hm
     rcases t with _|⟨x,t⟩
     ·have:numsL k [] false=some l:=hm
      cases k with
      |zero=>cases this
      |succ k=>cases this;simp
     ·have h2:=zdL 32 (x::t) (by simp)
      simp at h1 h2⊢
      omega
theorem zkK{mo co:Ps->Nat->Ou}{wh:Nat->List UInt8}{may:Int->Int->Int->Bool}{p:Ps}(h:POk may p)(s:List UInt8)(hs:s.length<=2999999):POk may (qL mo co wh may p s).1:=by
 unfold qL
 split
 ·exact h
 ·rename_i ns hns
  have h1:=yt _ _ _ ns hns
  have h2:=xJ 32 s
  exact zmP h _ ns (yr _ _ _ ns hns) (by omega)
end Go.Proofs.YtpiohehijkpghacGreatDoor.Dr
namespace Go.Proofs.YtpiohehijkpghacGreatDoor.Dr
open Go.RowKit
def rowD(f:Nat->Value)(n:Nat):Array Value:=((List.range n).map f).toArray
theorem jF(f:Nat->Value)(n:Nat):(rowD f n).size=n:=by simp[rowD]
theorem xk(f:Nat->Value){n i:Nat}(h:i<n):(rowD f n)[i]?=some (f i):=by simp[rowD,h]
theorem kI{f g:Nat->Value}{n:Nat}(h:∀i,i<n->f i=g i):rowD f n=rowD g n:=by
 unfold rowD
 congr 1
 exact List.map_congr_left fun i hi=>h i (List.mem_range.1 hi)
theorem zaF(f:Nat->Value)(n i:Nat)(v:Value):(rowD f n).setIfInBounds i v=rowD (fun j=>if j=i then v else f j) n:=by
 apply Array.ext_getElem?
 intro j
 by_cases hj:j<n
 ·rw[xk _ hj]
  by_cases e:j=i
  ·subst e
   simp[jF,hj]
  ·have e':¬i=j:=fun h=>e h.symm
   simp[e,e',xk f hj]
 ·rw[Ao (by simp[jF];omega),Ao (by rw[jF];omega)]
theorem zoH{w:World}{b n i:Nat}{f:Nat->Value}{t:TypeId}{fr:Nat×Nat}(h:w.heap[b]?=some (.cells (rowD f n) t fr))(hi:i<n):w.cell? ⟨b,i,none⟩=some (f i):=by
 rw[Ab _ _ _ _ _ _ h,xk f hi]
theorem zmQ{w:World}{b n o m:Nat}{f g:Nat->Value}{t:TypeId}{fr:Nat×Nat}(h:w.heap[b]?=some (.cells (rowD f n) t fr))(hm:o+m<=n)(e:∀j,j<m->f (o+j)=g j):w.rangeAt b o (rowD g m).toList:=fun j v hv=>by
 have hj:j<m:=by have:=(Af.1 hv).1;simpa[jF]using this
 rw[Array.getElem?_toList,xk g hj]at hv
 rw[Ab _ _ _ _ _ _ h,xk f (by omega),e j hj]
 exact hv
theorem zpO{w:World}{b n o m:Nat}{f:Nat->Value}{t:TypeId}(h:w.heap[b]?=some (.cells (rowD f n) t (0,0)))(hm:o+m<=n):w.there b o m:=fun j hj=>by
 refine⟨?_,Ar _ _ _ _ _ h⟩
 rw[Ab _ _ _ _ _ _ h,xk f (by omega)]
 rfl
theorem xL{w:World}{b i:Nat}{cs:Array Value}{t:TypeId}{fr:Nat×Nat}{v:Value}(h:w.heap[b]?=some (.cells cs t fr)):(w.setCell ⟨b,i,none⟩ v).heap[b]?=some (.cells (cs.setIfInBounds i v) t fr):=by
 simp[Av,Array.getElem?_modify,h]
structure Frm(S:Nat->Prop)(w w':World):Prop where
 os:w'.os=w.os
 tape:w'.tape=w.tape
 output:w'.output=w.output
 size:w.heap.size<=w'.heap.size
 block:∀k,k<w.heap.size->¬S k->w'.heap[k]?=w.heap[k]?
theorem Frm.trans{S S':Nat->Prop}{a b c:World}(h:Frm S a b)(k:Frm S' b c)(hs:∀i,S' i->S i\/a.heap.size<=i):Frm S a c:=
 ⟨k.os.trans h.os,k.tape.trans h.tape,k.output.trans h.output,Ac h.size k.size,fun i hi hn=>(k.block i (Aa hi h.size) fun hk=>(hs i hk).elim hn fun hl=>by omega).trans (h.block i hi hn)⟩
theorem Frm.of{S:Nat->Prop}{w w':World}(h:Below w.heap.size w w'):Frm S w w':=⟨h.os,h.tape,h.output,h.size,fun k hk _=>h.block k hk⟩
theorem Frm.below{S:Nat->Prop}{w w':World}{B:Nat}(h:Frm S w w')(hB:B<=w.heap.size)(hs:∀k,S k->B<=k):Below B w w':=⟨h.os,h.tape,h.output,h.size,fun k hk=>h.block k (by omega) fun hS=>by have:=hs k hS;omega⟩
theorem Frm.mono{S S':Nat->Prop}{w w':World}(h:Frm S w w')(hs:∀k,S k->S' k):Frm S' w w':=⟨h.os,h.tape,h.output,h.size,fun k hk hn=>h.block k hk fun hS=>hn (hs k hS)⟩
theorem Frm.grown{w w':World}{row:Option Nat}(h:w.grownBy w' row):Frm (fun k=>row=some k) w w':=⟨h.os,h.tape,h.output,h.size,fun k hk hn=>h.block k hk fun e=>hn e.symm⟩
theorem Frm.set(w:World)(b i:Nat)(v:Value):Frm (fun k=>k=b) w (w.setCell ⟨b,i,none⟩ v):=⟨rfl,rfl,rfl,by simp[Av],fun k _ hn=>Below.heap_setCell _ _ _ _ hn⟩
abbrev ucb(m:List Int):List Value:=m.map fun(b:Int)=>.int .u8 b
abbrev ici(m:List Int):List Value:=m.map fun(b:Int)=>.int .i64 b
def patD(p:Ps)(M C:Value)(i:Nat):Value:=
 if i<32 then .int .u32 (p.R i)else if i=32 then .int .u32 p.pc else if i<35 then .int .i64 0 else if i=35 then M else if i=36 then .int .i64 p.wi else if i=37 then .int .i64 p.ph else if i=38 then .int .i64 p.wd else C
def hatD(p:Ps)(i:Nat):Value:=if i<32 then .int .u32 (p.R i)else if i=32 then .int .u32 p.pc else .int .i64 0
structure PW(T:TypeId)(N:Nat)(w:World)(b:Nat)(p:Ps)(M C:Value):Prop where
 base:N<=b
 row:w.heap[b]?=some (.cells (rowD (patD p M C) 40) T (0,0))
 mem:w.ownsRow N 5 1 M p.mem.length (ucb p.mem)
 ch:w.ownsRow N 3 1 C p.ch.length (ici p.ch)
theorem zaG{w:World}{B:Nat}{e:TypeId}{size:Nat}{v:Value}{n:Nat}{xs:List Value}(h:w.ownsRow B e size v n xs){g:Nat}(hg:v.ownBlock=some g):∃c,w.heap[g]?=some (.cells c e (0,0)):=by
 rcases h.2 with⟨rfl,_⟩|⟨g',cap,cur,rfl,_,hgg,_⟩
 ·simp[Au]at hg
 ·simp[Au]at hg
  subst hg
  exact⟨_,hgg⟩
theorem zV{w:World}{B:Nat}{e T:TypeId}{size:Nat}{v:Value}{n:Nat}{xs:List Value}{b:Nat}{cs:Array Value}{fr:Nat×Nat}(h:w.ownsRow B e size v n xs)(hb:w.heap[b]?=some (.cells cs T fr))(hne:T≠e):v.ownBlock≠some b:=fun hv=>by
 obtain⟨c,hc⟩:=zaG h hv
 rw[hb]at hc
 injection hc with hc
 injection hc with _ h2 _
 exact hne h2
theorem qn{w w':World}{B e size:Nat}{v:Value}{n:Nat}{xs:List Value}(h:w.ownsRow B e size v n xs)(hb:∀g,v.ownBlock=some g->w'.heap[g]?=w.heap[g]?):w'.ownsRow B e size v n xs:=by
 obtain⟨h1,h2⟩:=h
 refine⟨h1,?_⟩
 rcases h2 with h2|⟨g,cap,cur,hv,hg,hh,r⟩
 ·exact .inl h2
 ·exact .inr ⟨g,cap,cur,hv,hg,(hb g (by rw[hv];rfl)).trans hh,r⟩
theorem qA{w:World}{B e size:Nat}{v:Value}{n:Nat}{xs:List Value}(h:w.ownsRow B e size v n xs):∃p c,v=.slice p n c:=by
 rcases h.2 with⟨hv,rfl⟩|⟨g,cap,cur,hv,_⟩
 ·exact⟨_,_,hv⟩
 ·exact⟨_,_,hv⟩
theorem qJ{w:World}{B B' e size:Nat}{v:Value}{n:Nat}{xs:List Value}(h:w.ownsRow B e size v n xs)(hB:B'<=B):w.ownsRow B' e size v n xs:=by
 obtain⟨h1,h2⟩:=h
 refine⟨h1,?_⟩
 rcases h2 with h2|⟨g,cap,cur,hv,hg,r⟩
 ·exact .inl h2
 ·exact .inr ⟨g,cap,cur,hv,Ac hB hg,r⟩
def Mine(b:Nat)(M C:Value)(k:Nat):Prop:=k=b\/M.ownBlock=some k\/C.ownBlock=some k
section
variable {T:TypeId} {N:Nat} {w w':World} {b:Nat} {p:Ps} {M C:Value}
theorem PW.lt(h:PW T N w b p M C):b<w.heap.size:=(Array.getElem?_eq_some_iff.1 h.row).1
theorem PW.cell(h:PW T N w b p M C)(i:Nat)(hi:i<40):w.cell? ⟨b,i,none⟩=some (patD p M C i):=zoH h.row hi
theorem PW.keeps(h:PW T N w b p M C){S:Nat->Prop}(hf:Frm S w w')(hS:∀k,Mine b M C k->¬S k):PW T N w' b p M C:=
 ⟨h.base,(hf.block b h.lt (hS b (.inl rfl))).trans h.row,qn h.mem fun g hg=>hf.block g (h.mem.lt g hg).2 (hS g (.inr (.inl hg))),qn h.ch fun g hg=>hf.block g (h.ch.lt g hg).2 (hS g (.inr (.inr hg)))⟩
theorem PW.below(h:PW T N w b p M C)(hb:Below w.heap.size w w'):PW T N w' b p M C:=h.keeps (S:=fun _=>False) (Frm.of hb) fun _ _ h=>h
theorem PW.mine(h:PW T N w b p M C):∀k,Mine b M C k->N<=k/\k<w.heap.size:=fun k hk=>by
 rcases hk with rfl|hk|hk
 ·exact⟨h.base,h.lt⟩
 ·exact h.mem.lt k hk
 ·exact h.ch.lt k hk
theorem PW.put(h:PW T N w b p M C)(h5:T≠5)(h3:T≠3)(i:Nat)(v:Value)(p':Ps)(hm:p'.mem=p.mem)(hc:p'.ch=p.ch)(hv:∀j,j<40->(if j=i then v else patD p M C j)=patD p' M C j):PW T N (w.setCell ⟨b,i,none⟩ v) b p' M C:=by
 refine⟨h.base,?_,?_,?_⟩
 ·rw[xL h.row,zaF,kI hv]
 ·rw[hm]
  exact qn h.mem fun g hg=>(Frm.set w b i v).block g (h.mem.lt g hg).2 fun e=>zV h.mem h.row h5 (by rw[hg,e])
 ·rw[hc]
  exact qn h.ch fun g hg=>(Frm.set w b i v).block g (h.ch.lt g hg).2 fun e=>zV h.ch h.row h3 (by rw[hg,e])
end
def PTo(T:TypeId)(N b:Nat)(w:World)(M C:Value)(w':World)(p':Ps):Prop:=
 ∃M' C',PW T N w' b p' M' C'/\Frm (Mine b M C) w w'/\(∀k,M'.ownBlock=some k->M.ownBlock=some k\/w.heap.size<=k)/\(∀k,C'.ownBlock=some k->C.ownBlock=some k\/w.heap.size<=k)
theorem PTo.same{T:TypeId}{N:Nat}{w w':World}{b:Nat}{p:Ps}{M C:Value}(h:PW T N w b p M C)(hb:Below w.heap.size w w'):PTo T N b w M C w' p:=
 ⟨M,C,h.below hb,Frm.of hb,fun k hk=>.inl hk,fun k hk=>.inl hk⟩
theorem PTo.ahead{T:TypeId}{N:Nat}{w w1 w':World}{b:Nat}{p':Ps}{M C:Value}(hb:Below w.heap.size w w1)(h:PTo T N b w1 M C w' p'):PTo T N b w M C w' p':=by
 obtain⟨M',C',hp,hf,hM,hC⟩:=h
 refine⟨M',C',hp,(Frm.of hb).trans hf fun i hi=>.inl hi,fun k hk=>(hM k hk).imp id fun h=>Ac hb.size h,fun k hk=>(hC k hk).imp id fun h=>Ac hb.size h⟩
theorem PTo.behind{T:TypeId}{N:Nat}{w w1 w':World}{b:Nat}{p':Ps}{M C:Value}(h:PTo T N b w M C w1 p')(hb:Below w1.heap.size w1 w'):PTo T N b w M C w' p':=by
 obtain⟨M',C',hp,hf,hM,hC⟩:=h
 exact⟨M',C',hp.below hb,hf.trans (Frm.of (S:=fun _=>False) hb) fun i hi=>hi.elim,hM,hC⟩
theorem PTo.put{T:TypeId}{N:Nat}{w w':World}{b:Nat}{p:Ps}{M C:Value}(h:PW T N w b p M C)(h5:T≠5)(h3:T≠3)(i:Nat)(v:Value)(p':Ps)(hm:p'.mem=p.mem)(hc:p'.ch=p.ch)(hv:∀j,j<40->(if j=i then v else patD p M C j)=patD p' M C j):PTo T N b w M C (w.setCell ⟨b,i,none⟩ v) p':=
 ⟨M,C,h.put h5 h3 i v p' hm hc hv,(Frm.set w b i v).mono fun k hk=>.inl hk,fun k hk=>.inl hk,fun k hk=>.inl hk⟩
theorem PTo.lower{T:TypeId}{N:Nat}{w w':World}{b:Nat}{p p':Ps}{M C:Value}(h:PW T N w b p M C)(ht:PTo T N b w M C w' p'):Below N w w':=by
 obtain⟨M',C',hp,hf,hM,hC⟩:=ht
 exact hf.below (by have:=h.lt;have:=h.base;omega) fun k hk=>(h.mine k hk).1
theorem ju(t:List UInt8):∀(l:List Int),(∀n∈l,0<=n/\n<=9223372036854775807)->(zx t l).length<=t.length+22*l.length
 |[],_=>by simp[zx]
 |n::l,h=>by
  have h1:=h n (by simp)
  have h2:=Aj n (by omega) h1.2
  have h3:=ju t l fun m hm=>h m (by simp[hm])
  simp only[zx,Ad,List.flatMap_cons,Ah]at h3⊢
  omega
def zP(ot:Nat->Bool)(tl:Nat->Int):Nat->List Int
 |0=>[]
 |n+1=>zP ot tl n++if ot n then[tl n]else[]
theorem xV(ot:Nat->Bool)(tl:Nat->Int):∀n,(zP ot tl n).length<=n
 |0=>Ag _
 |n+1=>by
  have:=xV ot tl n
  unfold zP
  split<;>simp<;>omega
theorem zaH{ot:Nat->Bool}{tl:Nat->Int}:∀n,(∀k,k<n->0<=tl k/\tl k<=4294967295)->∀x∈zP ot tl n,0<=x/\x<=4294967295
 |0,_=>by simp[zP]
 |n+1,h=>by
  intro x hx
  unfold zP at hx
  rcases Ap.1 hx with hx|hx
  ·exact zaH n (fun k hk=>h k (by omega)) x hx
  ·split at hx
   ·simp at hx
    subst hx
    exact h n (by omega)
   ·simp at hx
structure OuOk(o:Ou):Prop where
 er:0<=o.er/\o.er<=3
 many:o.many<=24000
 st:0<=o.st/\o.st<=6
 ca:0<=o.ca/\o.ca<=6
 pc:0<=o.pc/\o.pc<=4294967295
 told:∀x∈o.told,0<=x/\x<=4294967295
 tlen:o.told.length<=24000
theorem zf5{o:Ou}(h:OuOk o):(ranL o).length<=1000000:=by
 obtain⟨he,hm,hs,hc,hp,ht,hl⟩:=h
 unfold ranL
 split
 ·rw[zdT]
  have h1:=Aj (o.many:Int) (by omega) (by omega)
  have h2:=ju (An o.many) ([o.st,o.ca]++o.pc::o.told) (fun n hn=>by
   rcases Ap.1 hn with hn|hn
   ·rcases Ak.1 hn with rfl|hn
    ·omega
    ·simp at hn
     subst hn
     omega
   ·rcases Ak.1 hn with rfl|hn
    ·omega
    ·have:=ht n hn
     omega)
  simp only[Ad,Ah,List.length_nil]at h2
  omega
 ·have h2:=ju [98,97,100] [o.er] (fun n hn=>by simp at hn;subst hn;omega)
  simp at h2
  omega
def ComP(w:World)(v:Value)(n:Nat)(ot:Nat->Bool)(tl:Nat->Int):Prop:=
 ∃(a:Option Addr) (c:Nat) (g:Nat->Nat->Value),v=.slice a n c/\n<=c/\(0<n->∃b o,a=some ⟨b,o,none⟩/\b<w.heap.size/\∀k j,k<n->j<11->w.cell? ⟨b,o+(k*11+j),none⟩=some (g k j))/\(∀k,k<n->g k 9=.bool (ot k)/\g k 10=.int .u32 (tl k))/\∀k j,k<n->j<11->(g k j).oneCell'=true
theorem ComP.below{w w':World}{v:Value}{n:Nat}{ot:Nat->Bool}{tl:Nat->Int}(h:ComP w v n ot tl)(hb:Below w.heap.size w w'):ComP w' v n ot tl:=by
 obtain⟨a,c,g,hv,hc,hp,hg,h1⟩:=h
 refine⟨a,c,g,hv,hc,fun h0=>?_,hg,h1⟩
 obtain⟨b,o,ha,hlt,hcell⟩:=hp h0
 exact⟨b,o,ha,Aa hlt hb.size,fun k j hk hj=>(hb.cell (p:=⟨b,o+(k*11+j),none⟩) hlt).trans (hcell k j hk hj)⟩
structure Tells(w:World)(v:Value)(H:Array Value)(o:Ou):Prop where
 size:H.size=35
 one:H.all (·.oneCell')=true
 sl:∃a n c,v=.slice a n c
 yes:o.er=0->∃ot tl,ComP w v o.many ot tl/\o.told=zP ot tl o.many/\H[32]?=some (.int .u32 o.pc)/\H[33]?=some (.int .i64 o.st)/\H[34]?=some (.int .i64 o.ca)
theorem Tells.below{w w':World}{v:Value}{H:Array Value}{o:Ou}(h:Tells w v H o)(hb:Below w.heap.size w w'):Tells w' v H o:=
 ⟨h.size,h.one,h.sl,fun h0=>by
  obtain⟨ot,tl,hc,r⟩:=h.yes h0
  exact⟨ot,tl,hc.below hb,r⟩⟩
abbrev hvD(p:Ps):Value:=.agg (rowD (hatD p) 35)
abbrev cfD(p:Ps):Value:=.agg #[.int .i64 p.wi,.int .i64 p.ph,.int .i64 p.wd]
def RanM(w:World)(e:Ending)(o:Ou):Prop:=∃v H m,e=.returned (.tuple #[v,.agg H,m,.int .i64 o.er])/\Tells w v H o
def RanC(w:World)(e:Ending)(o:Ou):Prop:=∃Y v H,e=.returned (.tuple #[.agg Y,.int .i64 o.er])/\Y.size=40/\Y.all (·.oneCell')=true/\Y[0]?=some v/\(∀j,j<35->Y[1+j]?=H[j]?)/\Tells w v H o
structure In5 where
 op:Int
 rd:Int
 r1:Int
 r2:Int
 im:Int
def DecP(e:Ending)(r:Option In5):Prop:=match r with
 |none=>e=.returned (.tuple #[.agg #[.int .i64 0,.int .i64 0,.int .i64 0,.int .i64 0,.int .i32 0],.bool false])
 |some i=>e=.returned (.tuple #[.agg #[.int .i64 i.op,.int .i64 i.rd,.int .i64 i.r1,.int .i64 i.r2,.int .i32 i.im],.bool true])/\(0<=i.op/\i.op<=4294967295)/\(0<=i.rd/\i.rd<=4294967295)/\(0<=i.r1/\i.r1<=4294967295)/\(0<=i.r2/\i.r2<=4294967295)/\-2147483648<=i.im/\i.im<=2147483647
def whL(dec:Nat->Option In5)(x:Nat):List UInt8:=match dec x with
 |none=>[110,111]
 |some i=>zx [105,115] [i.op,i.rd,i.r1,i.r2,i.im%4294967296]
theorem Pow.below{w w':World}(h:Pow w)(hb:Below w.heap.size w w'):Pow w':=yJ h hb
abbrev bcs(l:List UInt8):List Value:=l.map fun b=>.int .u8 (b.toNat:Int)
theorem zcA(l:List UInt8):Ax ⟨l.toArray⟩=bcs l:=by simp[Ax]
theorem yN(l:List UInt8):(⟨l.toArray⟩:ByteArray).size=l.length:=by simp[ByteArray.size]
def qM(w:World)(v:Value)(k:IntKind)(l:List Int):Prop:=
 ∃(a:Option Addr) (c:Nat),v=.slice a l.length c/\(0<l.length->∃b o,a=some ⟨b,o,none⟩/\b<w.heap.size/\∀j x,l[j]?=some x->w.cell? ⟨b,o+j,none⟩=some (.int k x))
theorem qM.below{w w':World}{v:Value}{k:IntKind}{l:List Int}(h:qM w v k l)(hb:Below w.heap.size w w'):qM w' v k l:=by
 obtain⟨a,c,hv,hp⟩:=h
 refine⟨a,c,hv,fun h0=>?_⟩
 obtain⟨b,o,ha,hlt,hcell⟩:=hp h0
 exact⟨b,o,ha,Aa hlt hb.size,fun j x hx=>(hb.cell (p:=⟨b,o+j,none⟩) hlt).trans (hcell j x hx)⟩
theorem zf6(t:List UInt8){l:List Int}{i:Nat}{x:Int}(hx:l[i]?=some x):zx t (l.take (i+1))=zx t (l.take i)++[32]++An x:=by
 rw[As,hx]
 simp[zx]
theorem OwnT.base{w:World}{B B':Nat}{e:TypeId}{v:Value}{xs:List Value}(h:OwnT w B e v xs)(hB:B'<=B):OwnT w B' e v xs:=by
 obtain⟨g,cap,cur,fz,hv,hg,r⟩:=h
 exact⟨g,cap,cur,fz,hv,Ac hB hg,r⟩
theorem zeP(t:List UInt8)(ht:t.length<=100000000)(w:World):∃v w',(convert 9 28 (sv t)).run prog w=.ok v w'/\OwnT w' w.heap.size 5 v (bcs t)/\Below w.heap.size w w':=by
 have h:=zcy (P:=prog) w 9 28 5 underlying9 underlying28 underlying5 ⟨t.toArray⟩ (by rw[yN];unfold maxLen;omega)
 rw[zcA]at h
 exact h
theorem zdU:(prog.info? 5).map (fun i=>(i.zero,i.size,i.bytes))=some (some (.int .u8 0),1,1):=by kernel_rfl
theorem yP{F G:FuncId}{k:IntKind}{top:Int}(hF:(F=73/\G=76/\k=.i64)\/(F=74/\G=107/\k=.i64)\/(F=75/\G=108/\k=.u32))(htop:top<=9223372036854775807)
  (CG:∀x W,0<=x->x<=top->Pow W->Calls prog G #[.int k x] W fun e w'=>e=.returned (sv (An x))/\Below W.heap.size W w') (t:List UInt8) (l:List Int) (v:Value) (w:World) (hp:Pow w) (ht:t.length<=100000000) (hl:l.length<=100000) (hr:∀x∈l,0<=x/\x<=top) (hv:qM w v k l):
  Calls prog F #[sv t,v] w fun e w'=>e=.returned (sv (zx t l))/\Below w.heap.size w w':=by
 obtain⟨a,c,rfl,hcell⟩:=hv
 obtain⟨i0,hi,hz0,hz1,hz2⟩:=info_parts zdU
 have HC:Hid (0<l.length->∃b o,a=some ⟨b,o,none⟩/\b<w.heap.size/\∀j x,l[j]?=some x->w.cell? ⟨b,o+j,none⟩=some (.int k x)):=hcell
 have HR:Hid (∀x∈l,0<=x/\x<=top):=hr
 have HP:Hid (Pow w):=hp
 have hsz:=yN t
 have HT:Hid (∀i,i<=l.length->(zx t (l.take i)).length<=110000000):=fun i hi=>by
  have h1:=ju t (l.take i) (fun n hn=>by have:=hr n (List.mem_of_mem_take hn);omega)
  rw[At]at h1
  omega
 have CG:Hid (∀x W,0<=x->x<=top->Pow W->Calls prog G #[.int k x] W fun e w'=>e=.returned (sv (An x))/\Below W.heap.size W w'):=CG
 clear hcell hr hp
 rcases hF with⟨rfl,rfl,rfl⟩|⟨rfl,rfl,rfl⟩|⟨rfl,rfl,rfl⟩
 all_goals
  first|(go_enter func73,ntmps73)|(go_enter func74,ntmps74)|(go_enter func75,ntmps75)
  obtain⟨v1,w1,hr1,h1,hb1⟩:=zeP t (by omega) w
  go_wp2_with fail
  clear hr1
  have H1:Hid (OwnT w1 w.heap.size 5 v1 (bcs (zx t (l.take 0)))):=by
   have e:zx t (l.take 0)=t:=by simp[zx]
   rw[e]
   exact h1
  have B1:Hid (Below w.heap.size w w1):=hb1
  clear h1 hb1
  go_loopw [5,12] (fun tv ct wr=>∃i:Nat,ct=.int .i64 (i:Int)/\i<=l.length/\Hid (OwnT wr w.heap.size 5 tv (bcs (zx t (l.take i)))/\Below w.heap.size w wr)) (fun _ ct _=>l.length-(intOf ct).toNat)
  case atStart=>exact⟨0,rfl,Ay _,H1.out,B1.out⟩
  case round=>
   clear H1 B1
   obtain⟨i,rfl,hil,hrel⟩:=hrel
   have q5:Hid (OwnT wr w.heap.size 5 u5 (bcs (zx t (l.take i)))):=hrel.out.1
   have qb:Hid (Below w.heap.size w wr):=hrel.out.2
   clear hrel
   by_cases hlt:i<l.length
   ·obtain⟨b,o,rfl,hbw,hcl⟩:=HC.out (by omega)
    obtain⟨x,hx⟩:∃x,l[i]?=some x:=⟨_,Al hlt⟩
    have hxr:=HR.out x (Aq hx)
    have hcx:wr.cell? ⟨b,o+i,none⟩=some (.int _ x):=(qb.out.cell (p:=⟨b,o+i,none⟩) hbw).trans (hcl i x hx)
    have HX:Hid (l[i]?=some x):=hx
    have hTl:Hid ((zx t (l.take i)).length<=110000000):=HT.out i hil
    have hszw:Hid (w.heap.size<=wr.heap.size):=qb.out.size
    clear hcl hx
    go_upto_region 5 with fail
    go_upto_region 6 with(at_builtin;refine yK _ rfl _ _ 28 rfl w.heap.size 5 i0 underlying28 hi hz0 hz1 hz2 u5 (bcs (zx t (l.take i))) rfl ?q1 ⟨wr.heap.size,0,none⟩ 1 1 [.int .u8 32] rfl rfl ?q2 ?q3 ?q4 ?q5 ?q6 ?_)
    case q1=>exact q5.out.stays ((Ae _ _).alloc (Ag _) _)
    case q2=>
     intro j u hu
     have hj:j=0:=by have:=(Af.1 hu).1;simp at this;omega
     subst hj
     have hadd:(⟨wr.heap.size,0,none⟩:Addr).add 0=⟨wr.heap.size,0,none⟩:=by unfold Addr.add;split<;>simp_all
     rw[hadd,Ab _ wr.heap.size 0 _ _ (0,0) (heap_alloc_new wr _)]
     simpa using hu
    case q3=>intro u hu;simp at hu;subst hu;rfl
    case q4=>have:=hTl.out;unfold maxLen;simp;omega
    case q5=>have:=hTl.out;simp;omega
    case q6=>have:=hszw.out;simp;omega
    intro v2 w2 hown2 hg2
    have B2:Hid (Below w.heap.size w w2):=(qb.out.alloc qb.out.size _).grown hg2 (by have:=qb.out.size;simp;omega) (fun k hk=>(q5.out.lt k hk).1)
    have O2:Hid (OwnT w2 w.heap.size 5 v2 (bcs (zx t (l.take i)++[32]))):=by
     show OwnT _ _ _ _ _
     rw[show bcs (zx t (l.take i)++[32])=bcs (zx t (l.take i))++[.int .u8 32] by simp[bcs]]
     exact hown2
    have CD:=CG.out x w2 hxr.1 hxr.2 (HP.out.below B2.out)
    clear hown2 hg2 q5 hcx
    have hTx:Hid ((An x).length<=21):=Aj x (by omega) (by omega)
    go_upto_region 7 with(first|((first|(go_at_call 76)|(go_at_call 107)|(go_at_call 108));refine CD.mono ?_;rintro e w3 ⟨rfl,hb3⟩;have O3:Hid (OwnT w3 w.heap.size 5 v2 (bcs (zx t (l.take i)++[32]))):=O2.out.stays hb3;have B3:Hid (Below w.heap.size w w3):=B2.out.trans (hb3.mono B2.out.size))|(at_builtin;refine yn _ rfl _ _ 28 9 rfl w.heap.size 5 i0 underlying28 underlying9 hi hz0 hz1 hz2 v2 (bcs (zx t (l.take i)++[32])) rfl O3.out ⟨(An x).toArray⟩ rfl ?q7 ?q8 ?q9 ?_))
    case q7=>have:=hTl.out;have:=hTx.out;rw[yN];unfold maxLen;simp;omega
    case q8=>have:=hTl.out;have:=hTx.out;rw[yN];simp;omega
    case q9=>exact B3.out.size
    intro v4 w4 hown4 hg4
    have B4:Hid (Below w.heap.size w w4):=B3.out.grown hg4 B3.out.size (fun k hk=>(O3.out.lt k hk).1)
    have O4:Hid (OwnT w4 w.heap.size 5 v4 (bcs (zx t (l.take (i+1))))):=by
     rw[zcA]at hown4
     refine cast (congrArg (OwnT w4 w.heap.size 5 v4) ?_) hown4
     simp[bcs,zf6 t HX.out]
    clear hown4 hg4 O3 B3 hb3 O2 B2 CD
    go_wp2_with fail
    go_roundw
    case rel=>exact⟨i+1,by go_num,by omega,O4.out,B4.out⟩
    case measure=>simp[intOf];omega
   ·obtain rfl:i=l.length:=by omega
    have e5:Hid (OwnT wr w.heap.size 5 u5 (bcs (zx t l))):=by have:=q5.out;rw[List.take_length]at this;exact this
    have hrt:=zeO (P:=prog) wr 28 9 5 underlying28 underlying5 underlying9 _ u5 (zx t l) e5.out
    go_wp2_with fail
    go_ret
    exact⟨rfl,qb.out⟩
theorem xl(t:List UInt8)(l:List Int)(v:Value)(w:World)(hp:Pow w)(ht:t.length<=100000000)(hl:l.length<=100000)(hr:∀x∈l,0<=x/\x<=9223372036854775807)(hv:qM w v .i64 l):
  Calls prog 73 #[sv t,v] w fun e w'=>e=.returned (sv (zx t l))/\Below w.heap.size w w':=yP (.inl ⟨rfl,rfl,rfl⟩) (by omega) (fun x W h0 h1 hp=>zbt x h0 h1 W hp) t l v w hp ht hl hr hv
theorem zeQ(t:List UInt8)(l:List Int)(v:Value)(w:World)(hp:Pow w)(ht:t.length<=100000000)(hl:l.length<=100000)(hr:∀x∈l,0<=x/\x<=9223372036854775807)(hv:qM w v .i64 l):
  Calls prog 74 #[sv t,v] w fun e w'=>e=.returned (sv (zx t l))/\Below w.heap.size w w':=yP (.inr (.inl ⟨rfl,rfl,rfl⟩)) (by omega) (fun x W h0 h1 hp=>zfZ x h0 h1 W hp) t l v w hp ht hl hr hv
theorem zag(t:List UInt8)(l:List Int)(v:Value)(w:World)(hp:Pow w)(ht:t.length<=100000000)(hl:l.length<=100000)(hr:∀x∈l,0<=x/\x<=4294967295)(hv:qM w v .u32 l):
  Calls prog 75 #[sv t,v] w fun e w'=>e=.returned (sv (zx t l))/\Below w.heap.size w w':=yP (.inr (.inr ⟨rfl,rfl,rfl⟩)) (by omega) (fun x W h0 h1 hp=>zf0 x h0 h1 W hp) t l v w hp ht hl hr hv
theorem patR(p:Ps)(M C:Value){i:Nat}(h:i<32):patD p M C i=.int .u32 (p.R i):=if_pos h
theorem patP(p:Ps)(M C:Value):patD p M C 32=.int .u32 p.pc:=rfl
theorem patM(p:Ps)(M C:Value):patD p M C 35=M:=rfl
theorem patC(p:Ps)(M C:Value):patD p M C 39=C:=rfl
theorem PW.fro{T:TypeId}{N:Nat}{w:World}{b:Nat}{p:Ps}{M C:Value}(h:PW T N w b p M C)(i:Nat):w.frozen? ⟨b,i,none⟩=false:=Ar _ _ _ _ _ h.row
theorem zip{N b:Nat}{p:Ps}{M C:Value}(w:World)(h:PW 82 N w b p M C)(r x:Nat)(h1:1<=r)(h2:r<=31)(hx:x<4294967296):
  Calls prog 43 #[.pointer (some ⟨b,0,none⟩),.int .u32 (r:Int),.int .u32 (x:Int)] w fun e w'=>e=.returned (sv tOk)/\PTo 82 N b w M C w' {p with R:=fun i=>if i=r then(x:Int)else p.R i}:=by
 have HH:Hid (PW 82 N w b p M C):=h
 have hc:w.cell? ⟨b,r,none⟩=some (.int .u32 (p.R r)):=by rw[h.cell r (by omega),patR p M C (by omega)]
 have hf:w.frozen? ⟨b,r,none⟩=false:=h.fro r
 clear h
 go_enter func43,ntmps43
 go_wp2_with fail
 go_ret
 refine⟨rfl,PTo.put (w':=w) HH.out (by decide) (by decide) r _ _ rfl rfl fun j hj=>?_⟩
 unfold patD
 by_cases e:j=r
 ·subst e
  have h32:j<32:=by omega
  simp[h32]
 ·simp[e]
theorem zkL{N b:Nat}{p:Ps}{M C:Value}(w:World)(h:PW 82 N w b p M C)(r x:Nat)(h1:¬(1<=r/\r<=31))(hr:r<4294967296)(hx:x<4294967296):
  Calls prog 43 #[.pointer (some ⟨b,0,none⟩),.int .u32 (r:Int),.int .u32 (x:Int)] w fun e w'=>e=.returned (sv jz)/\PTo 82 N b w M C w' p:=by
 have HH:Hid (PW 82 N w b p M C):=h
 clear h
 by_cases h0:r<1
 ·go_enter func43,ntmps43
  go_wp2_with fail
  go_ret
  exact⟨rfl,PTo.same HH.out (Ae _ _)⟩
 ·have h3:32<=r:=by omega
  go_enter func43,ntmps43
  go_wp2_with fail
  go_ret
  exact⟨rfl,PTo.same HH.out (Ae _ _)⟩
theorem zcB{N b:Nat}{p:Ps}{M C:Value}(w:World)(h:PW 82 N w b p M C)(x y z:Int)(CM:∀W,Calls prog 16 #[.agg #[.int .i64 x,.int .i64 y,.int .i64 z]] W fun e w'=>e=.returned (.bool true)/\Below W.heap.size W w'):
  Calls prog 44 #[.pointer (some ⟨b,0,none⟩),.agg #[.int .i64 x,.int .i64 y,.int .i64 z]] w fun e w'=>e=.returned (sv tOk)/\PTo 82 N b w M C w' {p with wi:=x,ph:=y,wd:=z}:=by
 have HH:Hid (PW 82 N w b p M C):=h
 have hlt:b<w.heap.size:=h.lt
 clear h
 go_enter func44,ntmps44
 go_upto_region 3 with(go_at_call 16;refine(CM _).mono ?_;rintro e w1 ⟨rfl,hb1⟩)
 have B1:Hid (Below w.heap.size w w1):=((Ae _ _).alloc (Ag _) _).trans (hb1.mono (by simp))
 have P1:Hid (PW 82 N w1 b p M C):=HH.out.below B1.out
 have q0:w1.cell? ⟨w.heap.size,0,none⟩=some (.int .i64 x):=(hb1.cell (p:=⟨w.heap.size,0,none⟩) (by simp)).trans (by rw[Ab _ _ _ _ _ _ (heap_alloc_new w _)];rfl)
 have q1:w1.cell? ⟨w.heap.size,1,none⟩=some (.int .i64 y):=(hb1.cell (p:=⟨w.heap.size,1,none⟩) (by simp)).trans (by rw[Ab _ _ _ _ _ _ (heap_alloc_new w _)];rfl)
 have q2:w1.cell? ⟨w.heap.size,2,none⟩=some (.int .i64 z):=(hb1.cell (p:=⟨w.heap.size,2,none⟩) (by simp)).trans (by rw[Ab _ _ _ _ _ _ (heap_alloc_new w _)];rfl)
 have k0:w1.cell? ⟨b,36,none⟩=some (.int .i64 p.wi):=P1.out.cell 36 (by omega)
 have k1:w1.cell? ⟨b,37,none⟩=some (.int .i64 p.ph):=P1.out.cell 37 (by omega)
 have k2:w1.cell? ⟨b,38,none⟩=some (.int .i64 p.wd):=P1.out.cell 38 (by omega)
 have f0:w1.frozen? ⟨b,36,none⟩=false:=P1.out.fro 36
 have f1:w1.frozen? ⟨b,37,none⟩=false:=P1.out.fro 37
 have f2:w1.frozen? ⟨b,38,none⟩=false:=P1.out.fro 38
 clear hb1
 go_wp2_with fail
 go_ret
 refine⟨rfl,PTo.ahead B1.out ?_⟩
 have p1:=P1.out.put (by decide) (by decide) 36 (.int .i64 x) {p with wi:=x} rfl rfl fun j hj=>by unfold patD;by_cases e:j=36<;>simp[e]
 have p2:=p1.put (by decide) (by decide) 37 (.int .i64 y) {p with wi:=x,ph:=y} rfl rfl fun j hj=>by unfold patD;by_cases e:j=37<;>simp[e]
 have p3:=p2.put (by decide) (by decide) 38 (.int .i64 z) {p with wi:=x,ph:=y,wd:=z} rfl rfl fun j hj=>by unfold patD;by_cases e:j=38<;>simp[e]
 exact⟨M,C,p3,(((Frm.set w1 b 36 _).trans (Frm.set _ b 37 _) fun i hi=>.inl hi).trans (Frm.set _ b 38 _) fun i hi=>.inl hi).mono fun k hk=>.inl hk,fun k hk=>.inl hk,fun k hk=>.inl hk⟩
theorem zeR{N b:Nat}{p:Ps}{M C:Value}(w:World)(h:PW 82 N w b p M C)(x y z:Int)(CM:∀W,Calls prog 16 #[.agg #[.int .i64 x,.int .i64 y,.int .i64 z]] W fun e w'=>e=.returned (.bool false)/\Below W.heap.size W w'):
  Calls prog 44 #[.pointer (some ⟨b,0,none⟩),.agg #[.int .i64 x,.int .i64 y,.int .i64 z]] w fun e w'=>e=.returned (sv jz)/\PTo 82 N b w M C w' p:=by
 have HH:Hid (PW 82 N w b p M C):=h
 clear h
 go_enter func44,ntmps44
 go_wp2_with(go_at_call 16;refine(CM _).mono ?_;rintro e w1 ⟨rfl,hb1⟩)
 go_ret
 exact⟨rfl,PTo.same HH.out (((Ae _ _).alloc (Ag _) _).trans (hb1.mono (by simp)))⟩
theorem zf7{N b:Nat}{p:Ps}{M C:Value}(w:World)(h:PW 82 N w b p M C)(v:Value)(ns:List Nat)(hm:p.mem.length<=4096)(hv:∃a c,v=.slice a ns.length c)(hn:4096<p.mem.length+4*ns.length)(hl:ns.length<=3000000):
  Calls prog 42 #[.pointer (some ⟨b,0,none⟩),v] w fun e w'=>e=.returned (sv jz)/\PTo 82 N b w M C w' p:=by
 have HH:Hid (PW 82 N w b p M C):=h
 obtain⟨a,c,rfl⟩:=hv
 obtain⟨mp,mc,rfl⟩:=qA h.mem
 have k:w.cell? ⟨b,35,none⟩=some (.slice mp p.mem.length mc):=h.cell 35 (by omega)
 clear h
 obtain⟨n,hN⟩:∃n,n=p.mem.length:=⟨_,rfl⟩
 have HN:Hid (n=p.mem.length):=hN
 rw[<-hN]at k hm hn
 obtain⟨m,hM⟩:∃m,m=ns.length:=⟨_,rfl⟩
 rw[<-hM]at hn hl⊢
 clear hN hM
 have hq:Int.tdiv (4096-(n:Int)) 4=(4096-(n:Int))/4:=Int.tdiv_eq_ediv_of_nonneg (by omega)
 go_enter func42,ntmps42
 go_wp2_with fail
 go_ret
 exact⟨rfl,PTo.same HH.out (Ae _ _)⟩
theorem yQ{w:World}{B e e' size size':Nat}{v v':Value}{n n':Nat}{xs xs':List Value}(h:w.ownsRow B e size v n xs)(h':w.ownsRow B e' size' v' n' xs')(hne:e≠e'){k:Nat}(hk:v.ownBlock=some k):v'.ownBlock≠some k:=fun hk'=>by
 obtain⟨c,hc⟩:=zaG h hk
 exact zV h' hc hne hk'
theorem PW.setM{T:TypeId}{N:Nat}{w w1:World}{b:Nat}{p:Ps}{M C:Value}(h:PW T N w b p M C)(h5:T≠5)(h3:T≠3)(hf:Frm (fun k=>M.ownBlock=some k) w w1)(v':Value)(m':List Int)(ho:w1.ownsRow N 5 1 v' m'.length (ucb m')):PW T N (w1.setCell ⟨b,35,none⟩ v') b {p with mem:=m'} v' C:=by
 have hr1:w1.heap[b]?=some (.cells (rowD (patD p M C) 40) T (0,0)):=(hf.block b h.lt fun e=>zV h.mem h.row h5 e).trans h.row
 refine⟨h.base,?_,?_,?_⟩
 ·rw[xL hr1,zaF]
  rw[kI fun j hj=>?_]
  unfold patD
  by_cases e:j=35<;>simp[e]
 ·exact qn ho fun g hg=>(Frm.set w1 b 35 v').block g (ho.lt g hg).2 fun e=>zV ho hr1 h5 (by rw[hg,e])
 ·refine qn h.ch fun g hg=>((Frm.set w1 b 35 v').block g (Aa (h.ch.lt g hg).2 hf.size) fun e=>zV h.ch h.row h3 (by rw[hg,e])).trans (hf.block g (h.ch.lt g hg).2 fun e=>yQ h.mem h.ch (by decide) e hg)
theorem PW.setC{T:TypeId}{N:Nat}{w w1:World}{b:Nat}{p:Ps}{M C:Value}(h:PW T N w b p M C)(h5:T≠5)(h3:T≠3)(hf:Frm (fun k=>C.ownBlock=some k) w w1)(v':Value)(m':List Int)(ho:w1.ownsRow N 3 1 v' m'.length (ici m')):PW T N (w1.setCell ⟨b,39,none⟩ v') b {p with ch:=m'} M v':=by
 have hr1:w1.heap[b]?=some (.cells (rowD (patD p M C) 40) T (0,0)):=(hf.block b h.lt fun e=>zV h.ch h.row h3 e).trans h.row
 refine⟨h.base,?_,?_,?_⟩
 ·rw[xL hr1,zaF]
  rw[kI fun j hj=>?_]
  unfold patD
  by_cases e:j=39
  ·simp[e]
  ·have h1:¬(¬j<32/\¬j=32/\¬j<35/\¬j=35/\¬j=36/\¬j=37/\¬j=38):=by omega
   simp only[e,if_false]
   split
   ·rfl
   split
   ·rfl
   split
   ·rfl
   split
   ·rfl
   split
   ·rfl
   split
   ·rfl
   split
   ·rfl
   ·omega
 ·exact qn h.mem fun g hg=>((Frm.set w1 b 39 v').block g (Aa (h.mem.lt g hg).2 hf.size) fun e=>zV h.mem h.row h5 (by rw[hg,e])).trans (hf.block g (h.mem.lt g hg).2 fun e=>yQ h.ch h.mem (by decide) e hg)
 ·exact qn ho fun g hg=>(Frm.set w1 b 39 v').block g (ho.lt g hg).2 fun e=>zV ho hr1 h3 (by rw[hg,e])
theorem PTo.setM{T:TypeId}{N b:Nat}{w w0 w1:World}{p:Ps}{M C M' C':Value}(h:PW T N w b p M' C')(hf0:Frm (Mine b M C) w0 w)(hM:∀k,M'.ownBlock=some k->M.ownBlock=some k\/w0.heap.size<=k)(hC:∀k,C'.ownBlock=some k->C.ownBlock=some k\/w0.heap.size<=k)(h5:T≠5)(h3:T≠3)(hf:Frm (fun k=>M'.ownBlock=some k) w w1)(v':Value)(m':List Int)(ho:w1.ownsRow N 5 1 v' m'.length (ucb m'))(hv:∀k,v'.ownBlock=some k->M'.ownBlock=some k\/w.heap.size<=k):PTo T N b w0 M C (w1.setCell ⟨b,35,none⟩ v') {p with mem:=m'}:=by
 refine⟨v',C',h.setM h5 h3 hf v' m' ho,(hf0.trans hf ?_).trans (Frm.set w1 b 35 v') ?_,?_,hC⟩
 ·exact fun i hi=>(hM i hi).imp (fun h=>.inr (.inl h)) id
 ·exact fun i hi=>.inl (.inl hi)
 ·exact fun k hk=>(hv k hk).elim (hM k) fun h=>.inr (Ac hf0.size h)
theorem PTo.setC{T:TypeId}{N b:Nat}{w w0 w1:World}{p:Ps}{M C M' C':Value}(h:PW T N w b p M' C')(hf0:Frm (Mine b M C) w0 w)(hM:∀k,M'.ownBlock=some k->M.ownBlock=some k\/w0.heap.size<=k)(hC:∀k,C'.ownBlock=some k->C.ownBlock=some k\/w0.heap.size<=k)(h5:T≠5)(h3:T≠3)(hf:Frm (fun k=>C'.ownBlock=some k) w w1)(v':Value)(m':List Int)(ho:w1.ownsRow N 3 1 v' m'.length (ici m'))(hv:∀k,v'.ownBlock=some k->C'.ownBlock=some k\/w.heap.size<=k):PTo T N b w0 M C (w1.setCell ⟨b,39,none⟩ v') {p with ch:=m'}:=by
 refine⟨M',v',h.setC h5 h3 hf v' m' ho,(hf0.trans hf ?_).trans (Frm.set w1 b 39 v') ?_,hM,?_⟩
 ·exact fun i hi=>(hC i hi).imp (fun h=>.inr (.inr h)) id
 ·exact fun i hi=>.inl (.inl hi)
 ·exact fun k hk=>(hv k hk).elim (hC k) fun h=>.inr (Ac hf0.size h)
def Args(w:World)(b:Nat)(M C:Value)(v:Value)(ns:List Nat):Prop:=
 ∃(a:Option Addr) (c:Nat),v=.slice a ns.length c/\(0<ns.length->∃g o,a=some ⟨g,o,none⟩/\g<w.heap.size/\¬Mine b M C g/\∀(j x:Nat),ns[j]?=some x->w.cell? ⟨g,o+j,none⟩=some (.int .u32 (x:Int)))
theorem qB{w w':World}{g i:Nat}(h:w'.heap[g]?=w.heap[g]?):w'.cell? ⟨g,i,none⟩=w.cell? ⟨g,i,none⟩:=by
 unfold World.cell?
 rw[h]
theorem Args.at{w W:World}{b:Nat}{M C:Value}{a:Option Addr}{c:Nat}{ns:List Nat}(h:Args w b M C (.slice a ns.length c) ns)(hf:Frm (Mine b M C) w W)(h0:0<ns.length):
  ∃g o,a=some ⟨g,o,none⟩/\g<w.heap.size/\∀(j x:Nat),ns[j]?=some x->W.cell? ⟨g,o+j,none⟩=some (.int .u32 (x:Int)):=by
 obtain⟨a',c',e,h⟩:=h
 injection e with e1 e2 e3
 subst e1
 obtain⟨g,o,ha,hg,hm,hc⟩:=h h0
 exact⟨g,o,ha,hg,fun j x hx=>(qB (hf.block g hg hm)).trans (hc j x hx)⟩
theorem Frm.alloc_grown{w w':World}{o:Obj}{row:Option Nat}(h:(w.alloc o).grownBy w' row):Frm (fun k=>row=some k) w w':=
 ⟨h.os,h.tape,h.output,by have:=h.size;simp at this;omega,fun k hk hn=>(h.block k (by simp;omega) fun e=>hn e.symm).trans (heap_alloc_old w o hk)⟩
theorem ziq(m:List Int){ns:List Nat}{i x:Nat}(hx:ns[i]?=some x):addL m (ns.take (i+1))=addL m (ns.take i)++yM x:=by
 rw[As,hx]
 exact zkI m (ns.take i) x
theorem zeS{N b:Nat}{p:Ps}{M C:Value}(w:World)(h:PW 82 N w b p M C)(v:Value)(ns:List Nat)(hm:p.mem.length<=4096)(hn:p.mem.length+4*ns.length<=4096)(hr:∀x∈ns,x<4294967296)(hp:∀W,Below N w W->Pow W)
  (hv:Args w b M C v ns):
  Calls prog 42 #[.pointer (some ⟨b,0,none⟩),v] w fun e w'=>e=.returned (sv (zx tOk [((p.mem.length+4*ns.length:Nat):Int)]))/\PTo 82 N b w M C w' {p with mem:=addL p.mem ns}:=by
 have HH:Hid (PW 82 N w b p M C):=h
 have HV:=hv
 obtain⟨a,c,rfl,_⟩:=hv
 have HV:Hid (Args w b M C (.slice a ns.length c) ns):=HV
 have HR:Hid (∀x∈ns,x<4294967296):=hr
 have HP:Hid (∀W,Below N w W->Pow W):=hp
 obtain⟨mp,mc,rfl⟩:=qA h.mem
 have k:w.cell? ⟨b,35,none⟩=some (.slice mp p.mem.length mc):=h.cell 35 (by omega)
 obtain⟨i0,hi,hz0,hz1,hz2⟩:=info_parts zdU
 clear h hr hp
 have hq:Int.tdiv (4096-(p.mem.length:Int)) 4=(4096-(p.mem.length:Int))/4:=Int.tdiv_eq_ediv_of_nonneg (by omega)
 go_enter func42,ntmps42
 go_wp2_with fail
 clear hq k
 go_loopw [19] (fun ct wr=>∃i:Nat,ct=.int .i64 (i:Int)/\i<=ns.length/\Hid (PTo 82 N b w (.slice mp p.mem.length mc) C wr {p with mem:=addL p.mem (ns.take i)})) (fun ct _=>ns.length-(intOf ct).toNat)
 case atStart=>exact⟨0,rfl,Ay _,by have e:addL p.mem (ns.take 0)=p.mem:=(by simp[addL]);show PTo _ _ _ _ _ _ _ _;rw[e];exact PTo.same HH.out (Ae _ _)⟩
 case round=>
  obtain⟨i,rfl,hil,hrel⟩:=hrel
  obtain⟨M',C',P',F',m',c'⟩:=hrel.out
  have P1:Hid (PW 82 N wr b {p with mem:=addL p.mem (ns.take i)} M' C'):=P'
  have F1:Hid (Frm (Mine b (.slice mp p.mem.length mc) C) w wr):=F'
  have HM1:Hid ((∀k,M'.ownBlock=some k->(Value.slice mp p.mem.length mc).ownBlock=some k\/w.heap.size<=k)/\(∀k,C'.ownBlock=some k->C.ownBlock=some k\/w.heap.size<=k)):=⟨m',c'⟩
  have hlen:(addL p.mem (ns.take i)).length=p.mem.length+4*i:=by rw[zcz,At];omega
  clear P' F' m' c' hrel
  by_cases hlt:i<ns.length
  ·obtain⟨g,o,rfl,hgw,hcl⟩:=HV.out.at F1.out (by omega)
   obtain⟨x,hx⟩:∃x,ns[i]?=some x:=⟨_,Al hlt⟩
   have hxr:=HR.out x (Aq hx)
   have hcx:wr.cell? ⟨g,o+i,none⟩=some (.int .u32 (x:Int)):=hcl i x hx
   have HX:Hid (ns[i]?=some x):=hx
   have k35:wr.cell? ⟨b,35,none⟩=some M':=P1.out.cell 35 (by omega)
   have f35:wr.frozen? ⟨b,35,none⟩=false:=P1.out.fro 35
   clear hcl hx
   go_upto_region 6 with fail
   have hO:Hid (wr.ownsRow N 5 1 M' (addL p.mem (ns.take i)).length (ucb (addL p.mem (ns.take i)))):=P1.out.mem
   have hN:Hid (N<=wr.heap.size):=by have:=P1.out.lt;have:=P1.out.base;show _<=_;omega
   go_wp2_with(at_builtin;refine jY _ rfl _ _ 28 rfl N 5 i0 _ 1 1 underlying28 hi hz0 hz1 hz2 rfl (by decide) M' (addL p.mem (ns.take i)).length (ucb (addL p.mem (ns.take i))) rfl ?q1 ⟨wr.heap.size,0,none⟩ 4 4 (ucb (yM x)) rfl ?q2 ?q3 ?q4 ?q5 ?q6 ?q7 ?_)
   case q1=>exact ji hO.out ((Ae _ _).alloc (Ag _) _)
   case q2=>rfl
   case q3=>
    intro j v hv
    have hadd:(⟨wr.heap.size,0,none⟩:Addr).add j=⟨wr.heap.size,j,none⟩:=by unfold Addr.add;split<;>simp_all
    rw[hadd,Ab _ wr.heap.size j _ _ (0,0) (heap_alloc_new wr _)]
    have hx0:(x:Int)/16777216=((x/16777216%256:Nat):Int):=by omega
    rw[hx0]
    simpa[yM,ucb]using hv
   case q4=>intro v hv;obtain⟨y,_,rfl⟩:=Aw.1 hv;rfl
   case q5=>unfold maxLen;omega
   case q6=>omega
   case q7=>have:=hN.out;simp;omega
   intro v' w5 hown5 hgrow5 hst5
   have HG5:Hid (Frm (fun k=>M'.ownBlock=some k) wr w5):=Frm.alloc_grown hgrow5
   have HV5:Hid (∀k,v'.ownBlock=some k->M'.ownBlock=some k\/wr.heap.size<=k):=fun k hk=>(hst5 k hk).imp id fun e=>by rw[e];simp
   have HO5:Hid (w5.ownsRow N 5 1 v' (addL p.mem (ns.take (i+1))).length (ucb (addL p.mem (ns.take (i+1))))):=by
    show World.ownsRow _ _ _ _ _ _ _
    rw[ziq p.mem HX.out,Ad,hlen]
    have e:ucb (addL p.mem (ns.take i)++yM x)=ucb (addL p.mem (ns.take i))++ucb (yM x):=by simp[ucb]
    rw[e]
    exact hown5
   have k35':w5.cell? ⟨b,35,none⟩=some M':=(qB (HG5.out.block b P1.out.lt fun e=>zV P1.out.mem P1.out.row (by decide) e)).trans k35
   have f35':w5.frozen? ⟨b,35,none⟩=false:=Ar _ _ _ _ _ ((HG5.out.block b P1.out.lt fun e=>zV P1.out.mem P1.out.row (by decide) e).trans P1.out.row)
   obtain⟨vp,vc,rfl⟩:=qA hown5
   clear hown5 hgrow5 hst5 k35 f35 hcx
   go_wp2_with fail
   go_roundw
   case rel=>exact⟨i+1,by go_num,by omega,PTo.setM P1.out F1.out HM1.out.1 HM1.out.2 (by decide) (by decide) HG5.out _ _ HO5.out HV5.out⟩
   case measure=>simp[intOf];omega
  ·obtain rfl:i=ns.length:=by omega
   have PE:Hid (PW 82 N wr b {p with mem:=addL p.mem ns} M' C'):=by have:=P1.out;rw[List.take_length]at this;exact this
   have hle:(addL p.mem ns).length=p.mem.length+4*ns.length:=zcz _ _
   obtain⟨mp',mc',rfl⟩:=qA PE.out.mem
   have k35:wr.cell? ⟨b,35,none⟩=some (.slice mp' (addL p.mem ns).length mc'):=PE.out.cell 35 (by omega)
   have BN:Hid (Below N w wr):=F1.out.below (by have:=HH.out.lt;have:=HH.out.base;omega) fun k hk=>(HH.out.mine k hk).1
   have CT:=fun v hv=>xl tOk [((p.mem.length+4*ns.length:Nat):Int)] v (wr.alloc (.cells #[.int .i64 ((p.mem.length+4*ns.length:Nat):Int)] 3)) ((HP.out wr BN.out).below ((Ae _ _).alloc (Ag _) _)) (by decide) (by simp) (fun x hx=>by simp at hx;subst hx;omega) hv
   have CT:=CT (.slice (some ⟨wr.heap.size,0,none⟩) 1 1) ⟨_,_,rfl,fun _=>⟨_,_,rfl,by simp,fun j x hx=>by
    have hj:j=0:=by have:=(Af.1 hx).1;simp at this;omega
    subst hj
    rw[Ab _ wr.heap.size _ _ _ (0,0) (heap_alloc_new wr _)]
    simp at hx
    simp[hx]⟩⟩
   rw[hle]at k35
   clear hle P1
   go_wp2_with(go_at_call 73;refine CT.mono ?_;rintro e w3 ⟨rfl,hb3⟩)
   go_ret
   exact⟨rfl,PTo.behind ⟨_,C',PE.out,F1.out,HM1.out.1,HM1.out.2⟩ (((Ae _ _).alloc (Ag _) _).trans (hb3.mono (by simp)))⟩
end Go.Proofs.YtpiohehijkpghacGreatDoor.Dr
