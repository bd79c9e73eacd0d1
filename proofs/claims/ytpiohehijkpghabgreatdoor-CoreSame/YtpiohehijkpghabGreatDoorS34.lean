/- Window and rename as a core calls them. -/
import Derived.Test.YtpiohehijkpghabGreatDoorS33
import Derived.Test.YtpiohehijkpghabGreatDoorS09
import Derived.Test.YtpiohehijkpghabGreatDoorS24
set_option maxRecDepth 20000
set_option maxHeartbeats 1000000
set_option linter.unusedSimpArgs false
set_option linter.unusedVariables false
open Go.Proofs.Tryz
namespace Go.Proofs.YtpiohehijkpghabGreatDoor.Co
open Go.RowKit
open Hy
open Wi Od Re.Hy
open Gu.Hy (Tb tcs)
theorem xT{w w':World}{row:Option Nat}{a:Addr}{v:Value}(hg:w.grownBy w' row)(h:w.cell? a=some v)(hne:row≠some a.block):w'.cell? a=some v:=
 (World.cell?_of_block (w:=w) (a:=a) (hg.block a.block (World.block_lt_of_cell? _ _ h) (fun e=>hne e.symm))).trans h
theorem vz{w:World}{b i:Nat}{a:Addr}{v u:Value}(h:w.cell? a=some v)(hne:b≠a.block):(w.setCell ⟨b,i,none⟩ u).cell? a=some v:=
 (World.cell?_setCell_far w ⟨b,i,none⟩ a u hne).trans h
theorem zj1{w:World}{b i:Nat}{a:Addr}{v u:Value}(h:w.cell? a=some v)(hne:(⟨b,i,none⟩:Addr)≠a):(w.setCell ⟨b,i,none⟩ u).cell? a=some v:=
 (World.cell?_setCell_other w ⟨b,i,none⟩ a u hne).trans h
theorem qS{w:World}{a:Addr}{v:Value}(o:Obj)(h:w.cell? a=some v):(w.alloc o).cell? a=some v:=zn ((Below.refl _ _).alloc (Nat.le_refl _) _) h
theorem zp6{w:World}{b o:Nat}{vs:List Value}{a:Addr}{v:Value}(h:w.cell? a=some v)(hne:a.block≠b):(w.setCells b o vs).cell? a=some v:=
 (World.cell?_of_block (w:=w) (a:=a) (qc w b o vs hne)).trans h
theorem zoU{w:World}{b o b' o':Nat}{vs cs:List Value}(h:w.rangeAt b' o' cs)(hne:b'≠b):(w.setCells b o vs).rangeAt b' o' cs:=fun j v hj=>zp6 (h j v hj) hne
theorem zoV{w:World}{b i b' o':Nat}{u:Value}{cs:List Value}(h:w.rangeAt b' o' cs)(hne:b≠b'):(w.setCell ⟨b,i,none⟩ u).rangeAt b' o' cs:=fun j v hj=>vz (h j v hj) hne
theorem zcy{w w':World}{row:Option Nat}{b o:Nat}{cs:List Value}(hg:w.grownBy w' row)(h:w.rangeAt b o cs)(hne:row≠some b):w'.rangeAt b o cs:=fun j v hj=>xT hg (h j v hj) hne
theorem yv{w:World}{b o:Nat}{cs:List Value}(ob:Obj)(h:w.rangeAt b o cs):(w.alloc ob).rangeAt b o cs:=jy ((Below.refl _ _).alloc (Nat.le_refl _) _) h
theorem St.apart{N:Nat}{w:World}{b:Nat}{s:Cr}{L:Sls}(S:St N w b s L):(∀g,L.c.ownBlock=some g->L.u.ownBlock≠some g/\L.a.ownBlock≠some g/\g≠b)/\(∀g,L.u.ownBlock=some g->L.c.ownBlock≠some g/\L.a.ownBlock≠some g/\g≠b)/\(∀g,L.a.ownBlock=some g->L.c.ownBlock≠some g/\L.u.ownBlock≠some g/\g≠b):=by
 have c:=fun{g} h=>S.its.ic.block (g:=g) h
 have u:=fun{g} h=>S.its.iu.block (g:=g) h
 have a:=fun{g} h=>S.its.ia.block (g:=g) h
 have r:=S.row
 refine⟨fun g hg=>?_,fun g hg=>?_,fun g hg=>?_⟩
 ·obtain⟨x,hx⟩:=c hg
  refine⟨fun h=>?_,fun h=>?_,fun h=>?_⟩
  ·obtain⟨y,hy⟩:=u h;rw[hx]at hy;cases hy
  ·obtain⟨y,hy⟩:=a h;rw[hx]at hy;cases hy
  ·subst h;rw[hx]at r;cases r
 ·obtain⟨x,hx⟩:=u hg
  refine⟨fun h=>?_,fun h=>?_,fun h=>?_⟩
  ·obtain⟨y,hy⟩:=c h;rw[hx]at hy;cases hy
  ·obtain⟨y,hy⟩:=a h;rw[hx]at hy;cases hy
  ·subst h;rw[hx]at r;cases r
 ·obtain⟨x,hx⟩:=a hg
  refine⟨fun h=>?_,fun h=>?_,fun h=>?_⟩
  ·obtain⟨y,hy⟩:=c h;rw[hx]at hy;cases hy
  ·obtain⟨y,hy⟩:=u h;rw[hx]at hy;cases hy
  ·subst h;rw[hx]at r;cases r
theorem St.lt{N:Nat}{w:World}{b:Nat}{s:Cr}{L:Sls}(S:St N w b s L):b<w.heap.size:=(Array.getElem?_eq_some_iff.1 S.row).1
theorem qb{w w1:World}{row:Option Nat}(h:w.drew.grownBy w1 row):w.grownBy w1 row:=⟨h.os,h.tape,h.output,h.size,h.block⟩
theorem qh{w w1:World}{o:Obj}{row:Option Nat}(h:(w.alloc o).grownBy w1 row)(hr:∀g,row=some g->g<w.heap.size):w.grownBy w1 row:=by
 have hb:Below w.heap.size w (w.alloc o):=(Below.refl _ _).alloc (Nat.le_refl _) _
 refine⟨h.os.trans hb.os,h.tape.trans hb.tape,h.output.trans hb.output,Nat.le_trans hb.size h.size,fun g hg hn=>?_⟩
 rw[h.block g (Nat.lt_of_lt_of_le hg hb.size) hn,hb.block g hg]
theorem xa{b:Nat}{w w1:World}{L L':Sls}{row:Option Nat}(hG:w.grownBy w1 row)(hr:∀g,row=some g->own b L g)(hf:∀g,own b L' g->own b L g\/w.heap.size<=g):To b w L w1 L':=
 ⟨hG.os,hG.tape,hG.output,hG.size,fun g hg hn=>hG.block g hg (fun e=>hn (hr g e.symm)),hf⟩
theorem To.put{b:Nat}{w w1:World}{L L':Sls}(h:To b w L w1 L')(i:Nat)(v:Value):To b w L (w1.setCell ⟨b,i,none⟩ v) L':=
 h.trans (jT w1 i v fun g hg=>.inl hg)
theorem St.appA{N:Nat}{w:World}{b:Nat}{s:Cr}{L:Sls}(S:St N w b s L){w1:World}{v1:Value}(e:Ac)(hU:Us w1 100 7 v1 (s.asked.length+1) (flat cel s.asked++cel e))(hG:w.grownBy w1 L.a.ownBlock)(hF:∀g,v1.ownBlock=some g->L.a.ownBlock=some g\/w.heap.size<=g):
  St N (w1.setCell ⟨b,335,none⟩ v1) b {s with asked:=s.asked++[e]} {L with a:=v1}/\To b w L (w1.setCell ⟨b,335,none⟩ v1) {L with a:=v1}:=by
 obtain⟨dc,du,da⟩:=S.apart
 have hf:∀g,own b {L with a:=v1} g->own b L g\/w.heap.size<=g:=fun g hg=>by
  rcases hg with h|h|h|h
  ·exact .inl (.inl h)
  ·exact .inl (.inr (.inl h))
  ·exact .inl (.inr (.inr (.inl h)))
  ·exact(hF g h).imp (fun h=>.inr (.inr (.inr h))) id
 have T1:To b w L w1 {L with a:=v1}:=xa hG (fun g hg=>.inr (.inr (.inr hg))) hf
 have row:w1.heap[b]?=some (.cells (rowOf (kat s L) 339) 61 (0,0)):=(hG.block b S.lt (fun h=>(da b h.symm).2.2 rfl)).trans S.row
 have hc1:∀g,L.c.ownBlock=some g->w1.heap[g]?=w.heap[g]?:=fun g hg=>hG.block g (S.its.lt (.inl hg)) (fun h=>(dc g hg).2.1 h.symm)
 have hu1:∀g,L.u.ownBlock=some g->w1.heap[g]?=w.heap[g]?:=fun g hg=>hG.block g (S.its.lt (.inr (.inl hg))) (fun h=>(du g hg).2.1 h.symm)
 have I1:Its N w1 b {s with coms:=s.coms,under:=s.under,asked:=s.asked++[e]} {L with a:=v1}:=S.its.own T1 rfl rfl rfl rfl (S.its.ic.move hc1) (S.its.iu.move hu1) (by
  rw[kF,List.length_append]
  show Us w1 100 7 v1 (s.asked.length+1) (flat cel s.asked++(cel e++[]))
  rw[List.append_nil]
  exact hU)
 exact⟨St.cell row I1 335 v1 (fun j hj=>zoD _ L v1 j hj),T1.put 335 v1⟩
theorem St.appU{N:Nat}{w:World}{b:Nat}{s:Cr}{L:Sls}(S:St N w b s L){w1:World}{v1:Value}(e:Dg)(hU:Us w1 97 28 v1 (s.under.length+1) (flat dgl s.under++dgl e))(hG:w.grownBy w1 L.u.ownBlock)(hF:∀g,v1.ownBlock=some g->L.u.ownBlock=some g\/w.heap.size<=g):
  St N (w1.setCell ⟨b,334,none⟩ v1) b {s with under:=s.under++[e]} {L with u:=v1}/\To b w L (w1.setCell ⟨b,334,none⟩ v1) {L with u:=v1}:=by
 obtain⟨dc,du,da⟩:=S.apart
 have hf:∀g,own b {L with u:=v1} g->own b L g\/w.heap.size<=g:=fun g hg=>by
  rcases hg with h|h|h|h
  ·exact .inl (.inl h)
  ·exact .inl (.inr (.inl h))
  ·exact(hF g h).imp (fun h=>.inr (.inr (.inl h))) id
  ·exact .inl (.inr (.inr (.inr h)))
 have T1:To b w L w1 {L with u:=v1}:=xa hG (fun g hg=>.inr (.inr (.inl hg))) hf
 have row:w1.heap[b]?=some (.cells (rowOf (kat s L) 339) 61 (0,0)):=(hG.block b S.lt (fun h=>(du b h.symm).2.2 rfl)).trans S.row
 have hc1:∀g,L.c.ownBlock=some g->w1.heap[g]?=w.heap[g]?:=fun g hg=>hG.block g (S.its.lt (.inl hg)) (fun h=>(dc g hg).1 h.symm)
 have ha1:∀g,L.a.ownBlock=some g->w1.heap[g]?=w.heap[g]?:=fun g hg=>hG.block g (S.its.lt (.inr (.inr hg))) (fun h=>(da g hg).2.1 h.symm)
 have I1:Its N w1 b {s with coms:=s.coms,under:=s.under++[e],asked:=s.asked} {L with u:=v1}:=S.its.own T1 rfl rfl rfl rfl (S.its.ic.move hc1) (by
  rw[kF,List.length_append]
  show Us w1 97 28 v1 (s.under.length+1) (flat dgl s.under++(dgl e++[]))
  rw[List.append_nil]
  exact hU) (S.its.ia.move ha1)
 exact⟨St.cell row I1 334 v1 (fun j hj=>zoC _ L v1 j hj),T1.put 334 v1⟩
theorem St.appC{N:Nat}{w:World}{b:Nat}{s:Cr}{L:Sls}(S:St N w b s L){w1:World}{v1:Value}(e:Cm)(hU:Us w1 64 11 v1 (s.coms.length+1) (flat cml s.coms++cml e))(hG:w.grownBy w1 L.c.ownBlock)(hF:∀g,v1.ownBlock=some g->L.c.ownBlock=some g\/w.heap.size<=g):
  St N (w1.setCell ⟨b,3,none⟩ v1) b {s with coms:=s.coms++[e]} {L with c:=v1}/\To b w L (w1.setCell ⟨b,3,none⟩ v1) {L with c:=v1}:=by
 obtain⟨dc,du,da⟩:=S.apart
 have hf:∀g,own b {L with c:=v1} g->own b L g\/w.heap.size<=g:=fun g hg=>by
  rcases hg with h|h|h|h
  ·exact .inl (.inl h)
  ·exact(hF g h).imp (fun h=>.inr (.inl h)) id
  ·exact .inl (.inr (.inr (.inl h)))
  ·exact .inl (.inr (.inr (.inr h)))
 have T1:To b w L w1 {L with c:=v1}:=xa hG (fun g hg=>.inr (.inl hg)) hf
 have row:w1.heap[b]?=some (.cells (rowOf (kat s L) 339) 61 (0,0)):=(hG.block b S.lt (fun h=>(dc b h.symm).2.2 rfl)).trans S.row
 have hu1:∀g,L.u.ownBlock=some g->w1.heap[g]?=w.heap[g]?:=fun g hg=>hG.block g (S.its.lt (.inr (.inl hg))) (fun h=>(du g hg).1 h.symm)
 have ha1:∀g,L.a.ownBlock=some g->w1.heap[g]?=w.heap[g]?:=fun g hg=>hG.block g (S.its.lt (.inr (.inr hg))) (fun h=>(da g hg).1 h.symm)
 have I1:Its N w1 b {s with coms:=s.coms++[e],under:=s.under,asked:=s.asked} {L with c:=v1}:=S.its.own T1 rfl rfl rfl rfl (by
  rw[kF,List.length_append]
  show Us w1 64 11 v1 (s.coms.length+1) (flat cml s.coms++(cml e++[]))
  rw[List.append_nil]
  exact hU) (S.its.iu.move hu1) (S.its.ia.move ha1)
 exact⟨St.cell row I1 3 v1 (fun j hj=>zpZ _ L v1 j hj),T1.put 3 v1⟩
theorem St.putU{N:Nat}{w:World}{b:Nat}{s:Cr}{L:Sls}(S:St N w b s L){k j:Nat}{x y:Dg}{news:List Value}(hk:s.under[k]?=some x)(hj:j+news.length<=28)(he:dgl y=ov (dgl x) j news)(h1:∀u∈news,u.oneCell'=true):
  ∃g o cap,L.u=.slice (some ⟨g,o,none⟩) s.under.length cap/\w.there g (o+(k*28+j)) news.length/\St N (w.setCells g (o+(k*28+j)) news) b {s with under:=s.under.set k y} L/\To b w L (w.setCells g (o+(k*28+j)) news) L:=by
 obtain⟨dc,du,da⟩:=S.apart
 have hkl:k<s.under.length:=(List.getElem?_eq_some_iff.1 hk).1
 obtain⟨g,o,cap,e,_⟩:=S.its.iu.at (by omega)
 have hU:=S.its.iu
 rw[e]at hU
 have hlt:k*28+28<=s.under.length*28:=by omega
 have hog:L.u.ownBlock=some g:=by rw[e];rfl
 have T1:To b w L (w.setCells g (o+(k*28+j)) news) L:=xa (zO w g _ news) (fun g' hg'=>by cases hg';exact .inr (.inr (.inl hog))) (fun g hg=>.inl hg)
 refine⟨g,o,cap,e,hU.there _ _ (by omega),?_,T1⟩
 have hP:=hU.puts (k*28+j) news (by omega) h1
 rw[vu zP hk hj he,<-e]at hP
 have mv:∀g',g'≠g->(w.setCells g (o+(k*28+j)) news).heap[g']?=w.heap[g']?:=fun g' h=>qc w g _ news h
 have hgb:g≠b:=(du g hog).2.2
 refine⟨(mv b (fun h=>hgb h.symm)).trans S.row,?_⟩
 have I:=S.its.own (co:=s.coms) (un:=s.under.set k y) (ak:=s.asked) T1 rfl rfl rfl rfl (S.its.ic.move fun g' hg'=>mv g' (fun h=>(dc g' hg').1 (h▸hog))) (by rw[List.length_set];exact hP) (S.its.ia.move fun g' hg'=>mv g' (fun h=>(da g' hg').2.1 (h▸hog)))
 exact I
theorem St.putA{N:Nat}{w:World}{b:Nat}{s:Cr}{L:Sls}(S:St N w b s L){k:Nat}{x y:Ac}(hk:s.asked[k]?=some x)(h1:∀u∈cel y,u.oneCell'=true):
  ∃g o cap,L.a=.slice (some ⟨g,o,none⟩) s.asked.length cap/\w.there g (o+k*7) 7/\St N (w.setCells g (o+k*7) (cel y)) b {s with asked:=s.asked.set k y} L/\To b w L (w.setCells g (o+k*7) (cel y)) L:=by
 obtain⟨dc,du,da⟩:=S.apart
 have hkl:k<s.asked.length:=(List.getElem?_eq_some_iff.1 hk).1
 obtain⟨g,o,cap,e,_⟩:=S.its.ia.at (by omega)
 have hU:=S.its.ia
 rw[e]at hU
 have hlt:k*7+7<=s.asked.length*7:=by omega
 have hog:L.a.ownBlock=some g:=by rw[e];rfl
 have hl7:∀z:Ac,(cel z).length=7:=fun _=>rfl
 have T1:To b w L (w.setCells g (o+k*7) (cel y)) L:=xa (zO w g _ _) (fun g' hg'=>by cases hg';exact .inr (.inr (.inr hog))) (fun g hg=>.inl hg)
 refine⟨g,o,cap,e,hU.there _ _ (by omega),?_,T1⟩
 have hP:=hU.puts (k*7) (cel y) (by rw[hl7];omega) h1
 have hfo:=vu (g:=cel) hl7 (j:=0) (y:=y) (news:=cel y) hk (by rw[hl7];omega) (by unfold ov;rw[hl7,List.drop_eq_nil_of_le (by rw[hl7];omega)];simp)
 rw[Nat.add_zero]at hfo
 rw[hfo,<-e]at hP
 have mv:∀g',g'≠g->(w.setCells g (o+k*7) (cel y)).heap[g']?=w.heap[g']?:=fun g' h=>qc w g _ _ h
 have hgb:g≠b:=(da g hog).2.2
 refine⟨(mv b (fun h=>hgb h.symm)).trans S.row,?_⟩
 exact S.its.own (co:=s.coms) (un:=s.under) (ak:=s.asked.set k y) T1 rfl rfl rfl rfl (S.its.ic.move fun g' hg'=>mv g' (fun h=>(dc g' hg').2.1 (h▸hog))) (S.its.iu.move fun g' hg'=>mv g' (fun h=>(du g' hg').2.1 (h▸hog))) (by rw[List.length_set];exact hP)
def Bx(w:World)(q:Nat)(o:Dg):Prop:=w.heap[q]?=some (.cells (dgl o).toArray 97 (0,0))
theorem Bx.below{w w':World}{q:Nat}{o:Dg}(h:Bx w q o)(hb:Below w.heap.size w w'):Bx w' q o:=(hb.block q (Array.getElem?_eq_some_iff.1 h).1).trans h
theorem Bx.to{b:Nat}{w w':World}{L L':Sls}{q:Nat}{o:Dg}(h:Bx w q o)(hT:To b w L w' L')(hq:¬own b L q):Bx w' q o:=(hT.block q (Array.getElem?_eq_some_iff.1 h).1 hq).trans h
theorem Bx.lt{w:World}{q:Nat}{o:Dg}(h:Bx w q o):q<w.heap.size:=(Array.getElem?_eq_some_iff.1 h).1
theorem Bx.not{b:Nat}{w w':World}{L L':Sls}{q:Nat}{o:Dg}(h:Bx w q o)(hT:To b w L w' L')(hq:¬own b L q):¬own b L' q:=qn hT.fresh hq h.lt
theorem zq{w:World}{q:Nat}{o:Dg}(h:Bx w q o)(j:Nat){v:Value}(hj:(dgl o)[j]?=some v):w.cell? ⟨q,j,none⟩=some v:=by
 rw[cell_of_row _ _ _ _ _ _ h]
 simpa using hj
theorem zeE{w:World}{q:Nat}{o:Dg}(h:Bx w q o){j:Nat}{cs:List Value}(hj:∀i v,cs[i]?=some v->(dgl o)[j+i]?=some v):w.rangeAt q j cs:=fun i v hi=>zq h (j+i) (hj i v hi)
theorem qy{w:World}{q:Nat}{o:Dg}(h:Bx w q o)(j:Nat):w.frozen? ⟨q,j,none⟩=false:=frozen_of_row _ _ _ _ _ h
theorem Bx.puts{w:World}{q:Nat}{o o':Dg}(h:Bx w q o)(j:Nat)(news:List Value)(hj:j+news.length<=28)(e:dgl o'=ov (dgl o) j news):Bx (w.setCells q j news) q o':=by
 obtain⟨cur,h1,h2,h3⟩:=yJ news (off:=j) h (by simpa[zP]using hj)
 unfold Bx
 rw[h1,e]
 congr 2
 apply Array.ext_getElem?
 intro i
 rw[h3]
 have:=zoM (xs:=dgl o) (news:=news) (off:=j) (by rw[zP];exact hj) i
 simpa using this.symm
theorem Bx.put{w:World}{q:Nat}{o o':Dg}(h:Bx w q o)(j:Nat)(v:Value)(hj:j<28)(e:dgl o'=ov (dgl o) j [v]):Bx (w.setCell ⟨q,j,none⟩ v) q o':=h.puts j [v] (by simp only[List.length_cons,List.length_nil];omega) e
theorem zmh:(prog.info? 100).map (fun i=>(i.zero,i.size,i.bytes))=some (some (.agg (cel ⟨0,false,false,0,0,0,false⟩).toArray),7,32):=by kernel_rfl
theorem zoW:(prog.info? 97).map (fun i=>(i.zero,i.size,i.bytes))=some (some (dgv ⟨0,0,zin,0,0,0,0,0,0,0,false,0,false,zcm⟩),28,192):=by kernel_rfl
theorem zp7:(prog.info? 64).map (fun i=>(i.zero,i.size,i.bytes))=some (some (cvC zcm),11,64):=by kernel_rfl
theorem jW(q:Ac):∀u∈cel q,u.oneCell'=true:=by
 intro u hu
 simp only[cel,List.mem_cons,List.not_mem_nil,or_false]at hu
 rcases hu with rfl|rfl|rfl|rfl|rfl|rfl|rfl<;>rfl
theorem qz{w:World}{cs:List Value}{t:TypeId}(j:Nat)(u:Value)(h:cs[j]?=some u):(w.alloc (.cells cs.toArray t)).cell? ⟨w.heap.size,j,none⟩=some u:=by
 rw[cell_of_row _ _ _ _ _ _ (heap_alloc_new w _)]
 simpa using h
theorem Us.below{w w':World}{e size:Nat}{v:Value}{n:Nat}{xs:List Value}(h:Us w e size v n xs)(hb:Below w.heap.size w w'):Us w' e size v n xs:=
 h.move fun g hg=>hb.block g (by obtain⟨cur,e⟩:=h.block hg;exact(Array.getElem?_eq_some_iff.1 e).1)
theorem xb{w:World}{q:Nat}{o:Dg}(h:Bx w q o):w.rangeAt q 2 (ivL o.i).toList:=zeE h fun i v hi=>by
 have hl:i<5:=by have:=(List.getElem?_eq_some_iff.1 hi).1;simpa[ivL]using this
 rcases(by omega:i=0\/i=1\/i=2\/i=3\/i=4)with rfl|rfl|rfl|rfl|rfl<;>exact hi
theorem qL(i:In):(prog.info? 77).map (·.size)=some (ivL i).toList.length:=zeD
theorem zeF{N:Nat}{w:World}{b:Nat}{s:Cr}{L:Sls}(S:St N w b s L)(o:Dg)(hn:s.asked.length<=100000000):Calls prog 79 #[.pointer (some ⟨b,0,none⟩),dgv o] w fun e w'=>e=.returned (.tuple #[])/\∃L',St N w' b (askO s o) L'/\To b w L w' L'/\L'.m=L.m/\L'.f=L.f/\L'.s=L.s/\L'.r=L.r:=by
 obtain⟨iA,hi,hz0,hz1,hz2⟩:=info_parts zmh
 have CS:=fun w=>vt o.i w
 go_enter func79,ntmps79
 go_upto_region 1 with fail
 refine Wi.zA (Φ:=fun W=>Code.wp _ _ _ _ W) ?_
 intro V hV hVb
 have BV:Hid (Bx V w.heap.size o):=hV
 have SV:Hid (St N V b s L):=S.below hVb
 have TV:Hid (To b w L V L):=ze L hVb
 have hqo:¬own b L w.heap.size:=fun h=>by have:=qR S h;omega
 clear hV hVb S
 generalize w.heap.size=q at*
 have HQO:Hid (¬own b L q):=hqo
 have hnq:L.a.ownBlock≠some q:=fun h=>hqo (.inr (.inr (.inr h)))
 have hqb:q≠b:=fun h=>hqo (.inl h)
 clear hqo
 obtain⟨a,c,ea⟩:=SV.out.its.ia.slice
 have kA:V.cell? ⟨b,335,none⟩=some (.slice a (s.asked.length) c):=(zb SV.out.row (by omega)).trans (congrArg some ea)
 have HU:Hid (Us V 100 7 (.slice a (s.asked.length) c) (s.asked.length) (flat cel s.asked)):=by have:=SV.out.its.ia;rw[ea]at this;exact this
 have hnb:(Value.slice a (s.asked.length) c).ownBlock≠some b:=fun h=>(SV.out.apart.2.2 b (by rw[ea];exact h)).2.2 rfl
 have hlt0:∀g,(Value.slice a (s.asked.length) c).ownBlock=some g->g<V.heap.size:=fun g h=>SV.out.its.lt (.inr (.inr (by rw[ea];exact h)))
 refine zx (S:=fun w'=>w'.cell? ⟨b,335,none⟩=some (.slice a (s.asked.length) c)/\w'.cell? ⟨q,0,none⟩=some (.int .i64 o.seq)/\w'.cell? ⟨q,1,none⟩=some (.int .u32 o.pc)) [14] (by kernel_rfl) (⟨kA,zq BV.out 0 rfl,zq BV.out 1 rfl⟩) (fun hH=>?_)
 refine tU 0 (.pointer (some ⟨b,0,none⟩)) rfl hH ?_;try go_simp
 refine tU 1 (.pointer (some ⟨b,0,none⟩)) rfl hH ?_;try go_simp
 refine tU 2 (.pointer (some ⟨b,0,none⟩)) rfl hH ?_;try go_simp
 refine tU 3 (.pointer (some ⟨b,335,none⟩)) rfl hH ?_;try go_simp
 refine tS 4 (.slice a (s.asked.length) c) rfl (Or.inl ⟨by rfl,by intro wz hSw;have hc:=hSw.1;go_simp⟩) hH ?_;try go_simp
 refine tU 5 (.pointer (some ⟨q,0,none⟩)) rfl hH ?_;try go_simp
 refine tS 6 (.int .i64 o.seq) rfl (Or.inl ⟨by rfl,by intro wz hSw;have hc:=hSw.2.1;go_simp⟩) hH ?_;try go_simp
 refine tU 7 (.pointer (some ⟨q,1,none⟩)) rfl hH ?_;try go_simp
 refine tS 8 (.int .u32 o.pc) rfl (Or.inl ⟨by rfl,by intro wz hSw;have hc:=hSw.2.2;go_simp⟩) hH ?_;try go_simp
 refine tU 9 (.agg #[.int .i64 o.seq,.bool false,.bool true,.int .u32 o.pc,.int .i64 4,.int .u32 0,.bool true]) rfl hH ?_;try go_simp
 refine zC 10 rfl (fun K hK=>?_)
 go_simp
 refine hK.out _ _ (⟨qS _ (hH.1),qS _ (hH.2.1),qS _ (hH.2.2)⟩) (fun hN=>?_)
 clear hK K hH
 have hH:=hN
 clear hN
 try go_simp
 refine zC 11 rfl (fun K hK=>?_)
 rw[if_pos (by rfl)]
 refine zW _ _ 59 rfl 100 iA _ 7 32 underlying59 hi hz0 hz1 hz2 rfl (by decide) _ (s.asked.length) _ rfl (HU.out.below ((Below.refl _ _).drew.alloc (Nat.le_refl _) _)) V.heap.size (cel (ownA o)) rfl rfl (fun j u hj=>qz (w:=V.drew) j u hj) (jW _) (by omega) (by omega) ?_
 intro v1 w1 hU1 hG1 hF1
 obtain⟨p1,c1,rfl⟩:=hU1.slice
 have fA:w1.frozen? ⟨b,335,none⟩=false:=frozen_of_row _ _ _ _ _ ((hG1.block b (by have:=SV.out.lt;simp;omega) (fun h=>hnb h.symm)).trans ((Below.heap_alloc _ _ _ SV.out.lt).trans SV.out.row))
 have HU1:Hid (Us w1 100 7 (.slice p1 ((s.asked.length)+1) c1) ((s.asked.length)+1) (flat cel s.asked++cel (ownA o))):=hU1
 have HG1:Hid (V.grownBy w1 L.a.ownBlock):=by rw[ea];exact qb (qh hG1 (fun g hg=>hlt0 g hg))
 have HF1:Hid (∀g,(Value.slice p1 ((s.asked.length)+1) c1).ownBlock=some g->L.a.ownBlock=some g\/V.heap.size<=g):=fun g hg=>(hF1 g hg).imp (fun h=>by rw[ea];exact h) (fun h=>Nat.le_trans (by simp) h)
 refine hK.out _ _ (⟨xT hG1 (hH.1) (hnb),xT hG1 (hH.2.1) (by rw[<-ea];exact hnq),xT hG1 (hH.2.2) (by rw[<-ea];exact hnq)⟩) (fun hN=>?_)
 clear hK K hH
 have hH:=hN
 clear hN
 try go_simp
 have cA:=hH.1
 clear hU1 hG1 hF1 HU hnb hlt0 kA
 refine tU 12 (.pointer (some ⟨b,0,none⟩)) rfl hH ?_;try go_simp
 refine tU 13 (.pointer (some ⟨b,335,none⟩)) rfl hH ?_;try go_simp
 refine zL 14 rfl (fun K hK=>?_)
 go_simp
 refine hK.out _ _ ?_
 clear hK K
 try go_simp
 refine zJ (by kernel_rfl) ?_ _
 obtain⟨S1,T1⟩:=St.appA SV.out (ownA o) HU1.out HG1.out HF1.out
 clear HU1 HG1 HF1 hH cA fA
 generalize w1.setCell ⟨b,335,none⟩ (.slice p1 ((s.asked.length)+1) c1)=W1 at*
 generalize Value.slice p1 ((s.asked.length)+1) c1=v1 at*
 have B1:Hid (Bx W1 q o):=BV.out.to T1 HQO.out
 have HQ1:Hid (¬own b {L with a:=v1} q):=BV.out.not T1 HQO.out
 have T1':Hid (To b w L W1 {L with a:=v1}):=TV.out.trans T1
 have S1':Hid (St N W1 b {s with asked:=s.asked++[ownA o]} {L with a:=v1}):=S1
 have hnq:v1.ownBlock≠some q:=fun h=>HQ1.out (.inr (.inr (.inr h)))
 clear S1 T1 TV SV BV HQO ea
 go_wp2_with(refine wpList_load_mid rfl 77 _ rfl q 2 rfl (ivL o.i).toList _ (xb B1.out) underlying77 rfl (qL _) ?_)
 refine(CS _).mono ?_
 rintro e V2 ⟨rfl,hk2⟩
 have B2:Hid (Bx V2 q o):=B1.out.below hk2
 have SV:Hid (St N V2 b {s with asked:=s.asked++[ownA o]} {L with a:=v1}):=S1'.out.below hk2
 have T2:Hid (To b w L V2 {L with a:=v1}):=T1'.out.trans (ze _ hk2)
 clear hk2 B1 S1' T1' CS
 cases hst:sts o.i with
 |false=>
  have HE:Hid (askO s o={s with asked:=s.asked++[ownA o]}):=by show _=_;unfold askO;rw[hst];rfl
  clear hst
  go_wp2_with fail
  refine bodyPost_end (results_none rfl _ _ _) rfl ?_
  exact⟨rfl,_,by rw[HE.out];exact SV.out,T2.out,rfl,rfl,rfl,rfl⟩
 |true=>
  have e1:askO s o={s with asked:=s.asked++[ownA o]++[st0 o.seq]}:=by unfold askO;rw[hst];simp
  clear hst
  obtain⟨s',hs'⟩:∃s':Cr,s'={s with asked:=s.asked++[ownA o]}:=⟨_,rfl⟩
  obtain⟨L',hL'⟩:∃L':Sls,L'={L with a:=v1}:=⟨_,rfl⟩
  have HE:Hid (askO s o={s' with asked:=s'.asked++[st0 o.seq]}):=by show _=_;rw[e1,hs']
  have hn':s'.asked.length<=100000001:=by rw[hs'];simp;omega
  have hnq':L'.a.ownBlock≠some q:=by rw[hL'];exact hnq
  have HSm:Hid (L'.m=L.m/\L'.f=L.f/\L'.s=L.s/\L'.r=L.r):=by rw[hL'];exact⟨rfl,rfl,rfl,rfl⟩
  rw[<-hs',<-hL']at SV
  rw[<-hL']at T2
  clear e1 hs' hL' hnq HQ1
  go_upto_region 3 with fail
  obtain⟨a2,c2,ea⟩:=SV.out.its.ia.slice
  have kA:V2.cell? ⟨b,335,none⟩=some (.slice a2 (s'.asked.length) c2):=(zb SV.out.row (by omega)).trans (congrArg some ea)
  have HU:Hid (Us V2 100 7 (.slice a2 (s'.asked.length) c2) (s'.asked.length) (flat cel s'.asked)):=by have:=SV.out.its.ia;rw[ea]at this;exact this
  have hnb:(Value.slice a2 (s'.asked.length) c2).ownBlock≠some b:=fun h=>(SV.out.apart.2.2 b (by rw[ea];exact h)).2.2 rfl
  have hlt0:∀g,(Value.slice a2 (s'.asked.length) c2).ownBlock=some g->g<V2.heap.size:=fun g h=>SV.out.its.lt (.inr (.inr (by rw[ea];exact h)))
  refine zx (S:=fun w'=>w'.cell? ⟨b,335,none⟩=some (.slice a2 (s'.asked.length) c2)/\w'.cell? ⟨q,0,none⟩=some (.int .i64 o.seq)) [12] (by kernel_rfl) (⟨kA,zq B2.out 0 rfl⟩) (fun hH=>?_)
  refine tU 0 (.pointer (some ⟨b,0,none⟩)) rfl hH ?_;try go_simp
  refine tU 1 (.pointer (some ⟨b,0,none⟩)) rfl hH ?_;try go_simp
  refine tU 2 (.pointer (some ⟨b,0,none⟩)) rfl hH ?_;try go_simp
  refine tU 3 (.pointer (some ⟨b,335,none⟩)) rfl hH ?_;try go_simp
  refine tS 4 (.slice a2 (s'.asked.length) c2) rfl (Or.inl ⟨by rfl,by intro wz hSw;have hc:=hSw.1;go_simp⟩) hH ?_;try go_simp
  refine tU 5 (.pointer (some ⟨q,0,none⟩)) rfl hH ?_;try go_simp
  refine tS 6 (.int .i64 o.seq) rfl (Or.inl ⟨by rfl,by intro wz hSw;have hc:=hSw.2;go_simp⟩) hH ?_;try go_simp
  refine tU 7 (.agg #[.int .i64 o.seq,.bool true,.bool false,.int .u32 0,.int .i64 0,.int .u32 0,.bool false]) rfl hH ?_;try go_simp
  refine zC 8 rfl (fun K hK=>?_)
  go_simp
  refine hK.out _ _ (⟨qS _ (hH.1),qS _ (hH.2)⟩) (fun hN=>?_)
  clear hK K hH
  have hH:=hN
  clear hN
  try go_simp
  refine zC 9 rfl (fun K hK=>?_)
  rw[if_pos (by rfl)]
  refine zW _ _ 59 rfl 100 iA _ 7 32 underlying59 hi hz0 hz1 hz2 rfl (by decide) _ (s'.asked.length) _ rfl (HU.out.below ((Below.refl _ _).drew.alloc (Nat.le_refl _) _)) V2.heap.size (cel (st0 o.seq)) rfl rfl (fun j u hj=>qz (w:=V2.drew) j u hj) (jW _) (by omega) (by omega) ?_
  intro v1 w1 hU1 hG1 hF1
  obtain⟨p1,c1,rfl⟩:=hU1.slice
  have fA:w1.frozen? ⟨b,335,none⟩=false:=frozen_of_row _ _ _ _ _ ((hG1.block b (by have:=SV.out.lt;simp;omega) (fun h=>hnb h.symm)).trans ((Below.heap_alloc _ _ _ SV.out.lt).trans SV.out.row))
  have HU1:Hid (Us w1 100 7 (.slice p1 ((s'.asked.length)+1) c1) ((s'.asked.length)+1) (flat cel s'.asked++cel (st0 o.seq))):=hU1
  have HG1:Hid (V2.grownBy w1 L'.a.ownBlock):=by rw[ea];exact qb (qh hG1 (fun g hg=>hlt0 g hg))
  have HF1:Hid (∀g,(Value.slice p1 ((s'.asked.length)+1) c1).ownBlock=some g->L'.a.ownBlock=some g\/V2.heap.size<=g):=fun g hg=>(hF1 g hg).imp (fun h=>by rw[ea];exact h) (fun h=>Nat.le_trans (by simp) h)
  refine hK.out _ _ (⟨xT hG1 (hH.1) (hnb),xT hG1 (hH.2) (by rw[<-ea];exact hnq')⟩) (fun hN=>?_)
  clear hK K hH
  have hH:=hN
  clear hN
  try go_simp
  have cA:=hH.1
  clear hU1 hG1 hF1 HU hnb hlt0 kA
  refine tU 10 (.pointer (some ⟨b,0,none⟩)) rfl hH ?_;try go_simp
  refine tU 11 (.pointer (some ⟨b,335,none⟩)) rfl hH ?_;try go_simp
  refine zL 12 rfl (fun K hK=>?_)
  go_simp
  refine hK.out _ _ ?_
  clear hK K
  try go_simp
  refine zJ (by kernel_rfl) ?_ _
  obtain⟨S1,T1⟩:=St.appA SV.out (st0 o.seq) HU1.out HG1.out HF1.out
  clear HU1 HG1 HF1 hH cA fA
  generalize w1.setCell ⟨b,335,none⟩ (.slice p1 ((s'.asked.length)+1) c1)=W3 at*
  generalize Value.slice p1 ((s'.asked.length)+1) c1=v1 at*
  have T3:=T2.out.trans T1
  clear T1 T2 SV
  go_wp2_with fail
  refine bodyPost_end (results_none rfl _ _ _) rfl ?_
  exact⟨rfl,_,by rw[HE.out];exact S1,T3,HSm.out⟩
structure Toq(b q:Nat)(w:World)(L:Sls)(w':World)(L':Sls):Prop where
 os:w'.os=w.os
 tape:w'.tape=w.tape
 output:w'.output=w.output
 size:w.heap.size<=w'.heap.size
 block:∀g,g<w.heap.size->¬own b L g->g≠q->w'.heap[g]?=w.heap[g]?
 fresh:∀g,own b L' g->own b L g\/w.heap.size<=g
theorem To.q{b q:Nat}{w w':World}{L L':Sls}(h:To b w L w' L'):Toq b q w L w' L':=⟨h.os,h.tape,h.output,h.size,fun g hg hn _=>h.block g hg hn,h.fresh⟩
theorem Toq.trans{b q:Nat}{w w1 w2:World}{L L1 L2:Sls}(h:Toq b q w L w1 L1)(k:Toq b q w1 L1 w2 L2):Toq b q w L w2 L2:=by
 refine⟨k.os.trans h.os,k.tape.trans h.tape,k.output.trans h.output,Nat.le_trans h.size k.size,fun g hg hn hq=>?_,fun g hg=>?_⟩
 ·rw[k.block g (Nat.lt_of_lt_of_le hg h.size) (fun ho=>?_) hq,h.block g hg hn hq]
  rcases h.fresh g ho with h'|h'
  ·exact hn h'
  ·omega
 ·rcases k.fresh g hg with h'|h'
  ·exact h.fresh g h'
  ·exact .inr (Nat.le_trans h.size h')
theorem Toq.to{b q:Nat}{w w1 w2:World}{L L1 L2:Sls}(h:To b w L w1 L1)(hq:w.heap.size<=q)(k:Toq b q w1 L1 w2 L2):To b w L w2 L2:=by
 refine⟨k.os.trans h.os,k.tape.trans h.tape,k.output.trans h.output,Nat.le_trans h.size k.size,fun g hg hn=>?_,fun g hg=>?_⟩
 ·rw[k.block g (Nat.lt_of_lt_of_le hg h.size) (fun ho=>?_) (by omega),h.block g hg hn]
  rcases h.fresh g ho with h'|h'
  ·exact hn h'
  ·omega
 ·rcases k.fresh g hg with h'|h'
  ·exact h.fresh g h'
  ·exact .inr (Nat.le_trans h.size h')
theorem zaB{b q:Nat}{w w':World}{L:Sls}(h:w.grownBy w' (some q)):Toq b q w L w' L:=⟨h.os,h.tape,h.output,h.size,fun g hg _ hq=>h.block g hg (fun e=>hq (Option.some.inj e)),fun _ h=>.inl h⟩
theorem qd(w:World)(q i:Nat)(v:Value):w.grownBy (w.setCell ⟨q,i,none⟩ v) (some q):=zO w q i [v]
structure Apt(b q:Nat)(s:Cr)(L:Sls):Prop where
 o:¬own b L q
 m:∀g,L.m.ownBlock=some g->0<s.n->g≠q
 f:∀g,L.f.ownBlock=some g->0<s.free.length->g≠q
 sl:∀g,L.s.ownBlock=some g->0<s.slots.length->g≠q
 r:∀g,L.r.ownBlock=some g->0<s.scr.length->g≠q
 g1:q≠1
 g2:q≠0
theorem St.apt{N:Nat}{w:World}{b:Nat}{s:Cr}{L:Sls}(S:St N w b s L){q:Nat}(hq:w.heap.size<=q):Apt b q s L:=by
 obtain⟨b1,b2,b3,b4⟩:=S.its.blk
 have h1:=S.its.tb.size
 have h2:=S.its.tb2.size
 exact⟨fun h=>by have:=qR S h;omega,fun g h h0=>by have:=b1 g h h0;omega,fun g h h0=>by have:=b2 g h h0;omega,fun g h h0=>by have:=b3 g h h0;omega,fun g h h0=>by have:=b4 g h h0;omega,by omega,by omega⟩
theorem St.other{N:Nat}{w w':World}{b q:Nat}{s:Cr}{L:Sls}(S:St N w b s L)(h:w.grownBy w' (some q))(hA:Apt b q s L):St N w' b s L:=by
 have hq:=hA.o
 have g1:=hA.g1
 have g2:=hA.g2
 have mv:∀g,g<w.heap.size->g≠q->w'.heap[g]?=w.heap[g]?:=fun g hg hn=>h.block g hg (fun e=>hn (Option.some.inj e))
 have nq:∀g,own b L g->g≠q:=fun g hg e=>hq (e▸hg)
 refine⟨(mv b S.lt (nq b (.inl rfl))).trans S.row,?_⟩
 have I:=S.its
 obtain⟨pm,cm,em,hm'⟩:=I.im
 obtain⟨pf,cf,ef,hf'⟩:=I.ifr
 obtain⟨ps,cs,es,hs'⟩:=I.isl
 obtain⟨pr,cr,er,hr'⟩:=I.ir
 have lt:∀{g:Nat} {j:Nat} {v:Value},w.cell? ⟨g,j,none⟩=some v->g<w.heap.size:=fun hv=>World.block_lt_of_cell? _ _ hv
 have nT:1<w.heap.size:=I.tb.size
 have nT2:0<w.heap.size:=I.tb2.size
 refine⟨I.ic.move fun g hg=>mv g (I.lt (.inl hg)) (nq g (.inr (.inl hg))),I.iu.move fun g hg=>mv g (I.lt (.inr (.inl hg))) (nq g (.inr (.inr (.inl hg)))),I.ia.move fun g hg=>mv g (I.lt (.inr (.inr hg))) (nq g (.inr (.inr (.inr hg)))),
  ⟨pm,cm,em,xC hm' fun h0 x hx=>?_⟩,⟨pf,cf,ef,zbr hf' fun h0 x hx=>?_⟩,⟨ps,cs,es,qK hs' h.size fun h0 x hx=>?_⟩,⟨pr,cr,er,qK hr' h.size fun h0 x hx=>?_⟩,
  I.sm,I.sf,I.ss,I.sr,I.base,fun i hi=>(World.cell?_of_block (w:=w) (a:=⟨1,i,none⟩) (mv _ nT (fun e=>g1 e.symm))).trans (I.tb i hi),fun i hi=>(World.cell?_of_block (w:=w) (a:=⟨0,i,none⟩) (mv _ nT2 (fun e=>g2 e.symm))).trans (I.tb2 i hi),I.g1,I.g2,Nat.le_trans I.nN h.size⟩
 ·obtain⟨g,o,e,hl⟩:=hm'.hm h0
  rw[hx]at e
  cases e
  exact mv g (lt (hl 0 h0)) (hA.m _ (by rw[em,hx];rfl) h0)
 ·obtain⟨g,o,e,hl⟩:=hf'.ad x hx h0
  subst e
  exact mv g (lt (hl 0 h0)) (hA.f _ (by rw[ef,hx];rfl) h0)
 ·obtain⟨g,o,e,hlt,_⟩:=hs'.ad x hx h0
  subst e
  exact mv g hlt (hA.sl _ (by rw[es,hx];rfl) h0)
 ·obtain⟨g,o,e,hlt,_⟩:=hr'.ad x hx h0
  subst e
  exact mv g hlt (hA.r _ (by rw[er,hx];rfl) h0)
theorem St.setSlots{N:Nat}{w:World}{b:Nat}{s:Cr}{L:Sls}(S:St N w b s L){l:List Sl}{a:Option Addr}{c:Nat}(hl:LC w a l.length c 2 (scs l))(hs:∀x,a=some x->¬own b L x.block):
  St N (w.setCell ⟨b,333,none⟩ (.slice a l.length c)) b {s with slots:=l} {L with s:=.slice a l.length c}/\To b w L (w.setCell ⟨b,333,none⟩ (.slice a l.length c)) {L with s:=.slice a l.length c}:=by
 refine⟨St.cell S.row (S.its.setS (l:=l) ⟨_,_,rfl,hl⟩ (fun g hg h0=>?_)) 333 _ (fun j hj=>zoB s L _ j hj),jT w 333 _ (fun g hg=>.inl hg)⟩
 cases a with
 |none=>cases hg
 |some x=>exact(Option.some.inj hg)▸hs x rfl
theorem St.setNames{N:Nat}{w:World}{b:Nat}{s:Cr}{L:Sls}(S:St N w b s L){l:List Int}{a:Option Addr}{c:Nat}(r:Nat->Int)(hl:Re.Lie w a l.length c (fun i=>l.getD i 0))(hs:∀x,a=some x->¬own b L x.block):
  St N (w.setCells b 107 (rowOf (mat s.phys r (.slice a l.length c)) 34).toList) b {s with regs:=r,free:=l} {L with f:=.slice a l.length c}/\To b w L (w.setCells b 107 (rowOf (mat s.phys r (.slice a l.length c)) 34).toList) {L with f:=.slice a l.length c}:=by
 refine⟨St.cells S.row (S.its.setF r (l:=l) ⟨_,_,rfl,hl⟩ (fun g hg h0=>?_)) 107 (fun j hj=>zhP s L r _ l j hj),zdB w 107 _ (fun g hg=>.inl hg)⟩
 cases a with
 |none=>cases hg
 |some x=>exact(Option.some.inj hg)▸hs x rfl
theorem Its.same{N:Nat}{w:World}{b:Nat}{s s':Cr}{L:Sls}(h:Its N w b s L)(h1:s'.coms=s.coms)(h2:s'.under=s.under)(h3:s'.asked=s.asked)(h4:s'.n=s.n)(h5:s'.f=s.f)(h6:s'.free=s.free)(h7:s'.slots=s.slots)(h8:s'.scr=s.scr):Its N w b s' L:=by
 refine⟨by rw[h1];exact h.ic,by rw[h2];exact h.iu,by rw[h3];exact h.ia,by rw[h4,h5];exact h.im,by rw[h6];exact h.ifr,by rw[h7];exact h.isl,by rw[h8];exact h.ir,by rw[h4];exact h.sm,by rw[h6];exact h.sf,by rw[h7];exact h.ss,by rw[h8];exact h.sr,h.base,h.tb,h.tb2,h.g1,h.g2,h.nN⟩
theorem St.setTb{N:Nat}{w:World}{b:Nat}{s:Cr}{L:Sls}(S:St N w b s L)(t:Tb):St N (w.setCells b 43 (rowOf (tat t) 64).toList) b {s with tb:=t} L/\To b w L (w.setCells b 43 (rowOf (tat t) 64).toList) L:=
 ⟨St.cells (s:={s with tb:=t}) S.row (S.its.same rfl rfl rfl rfl rfl rfl rfl rfl) 43 (fun j hj=>zoH s L t j hj),zdB w 43 _ (fun g hg=>.inl hg)⟩
theorem St.setHart{N:Nat}{w:World}{b:Nat}{s:Cr}{L:Sls}(S:St N w b s L)(R:Nat->Int)(pc st ca:Int):St N (w.setCells b 4 (rowOf (hat R pc st ca) 35).toList) b {s with R:=R,pc:=pc,st:=st,ca:=ca} L/\To b w L (w.setCells b 4 (rowOf (hat R pc st ca) 35).toList) L:=
 ⟨St.cells (s:={s with R:=R,pc:=pc,st:=st,ca:=ca}) S.row (S.its.same rfl rfl rfl rfl rfl rfl rfl rfl) 4 (fun j hj=>zjS s L R pc st ca j hj),zdB w 4 _ (fun g hg=>.inl hg)⟩
theorem St.setMem{N:Nat}{w:World}{b:Nat}{s:Cr}{L:Sls}(S:St N w b s L){f:Nat->Int}{a:Option Addr}{c:Nat}(hl:Bys w a s.n c f)(hs:∀x,a=some x->¬own b L x.block):
  St N (w.setCell ⟨b,39,none⟩ (.slice a s.n c)) b {s with f:=f} {L with m:=.slice a s.n c}/\To b w L (w.setCell ⟨b,39,none⟩ (.slice a s.n c)) {L with m:=.slice a s.n c}:=by
 refine⟨St.cell S.row (S.its.setM (f:=f) ⟨_,_,rfl,hl⟩ (fun g hg h0=>?_)) 39 _ (fun j hj=>zpY s L _ j hj),jT w 39 _ (fun g hg=>.inl hg)⟩
 cases a with
 |none=>cases hg
 |some x=>exact(Option.some.inj hg)▸hs x rfl
theorem St.setCyc{N:Nat}{w:World}{b:Nat}{s:Cr}{L:Sls}(S:St N w b s L)(x:Int):St N (w.setCell ⟨b,40,none⟩ (.int .i64 x)) b {s with cyc:=x} L/\To b w L (w.setCell ⟨b,40,none⟩ (.int .i64 x)) L:=
 ⟨St.cell (s:={s with cyc:=x}) S.row (S.its.same rfl rfl rfl rfl rfl rfl rfl rfl) 40 _ (fun j hj=>zl3 s L x j hj),jT w 40 _ (fun g hg=>.inl hg)⟩
theorem St.setTak{N:Nat}{w:World}{b:Nat}{s:Cr}{L:Sls}(S:St N w b s L)(x:Int):St N (w.setCell ⟨b,41,none⟩ (.int .i64 x)) b {s with tak:=x} L/\To b w L (w.setCell ⟨b,41,none⟩ (.int .i64 x)) L:=
 ⟨St.cell (s:={s with tak:=x}) S.row (S.its.same rfl rfl rfl rfl rfl rfl rfl rfl) 41 _ (fun j hj=>zl4 s L x j hj),jT w 41 _ (fun g hg=>.inl hg)⟩
theorem St.setBck{N:Nat}{w:World}{b:Nat}{s:Cr}{L:Sls}(S:St N w b s L)(x:Int):St N (w.setCell ⟨b,42,none⟩ (.int .i64 x)) b {s with bck:=x} L/\To b w L (w.setCell ⟨b,42,none⟩ (.int .i64 x)) L:=
 ⟨St.cell (s:={s with bck:=x}) S.row (S.its.same rfl rfl rfl rfl rfl rfl rfl rfl) 42 _ (fun j hj=>zl5 s L x j hj),jT w 42 _ (fun g hg=>.inl hg)⟩
theorem St.setFro{N:Nat}{w:World}{b:Nat}{s:Cr}{L:Sls}(S:St N w b s L)(x:Int):St N (w.setCell ⟨b,337,none⟩ (.int .u32 x)) b {s with fro:=x} L/\To b w L (w.setCell ⟨b,337,none⟩ (.int .u32 x)) L:=
 ⟨St.cell (s:={s with fro:=x}) S.row (S.its.same rfl rfl rfl rfl rfl rfl rfl rfl) 337 _ (fun j hj=>zl6 s L x j hj),jT w 337 _ (fun g hg=>.inl hg)⟩
theorem St.setOpn{N:Nat}{w:World}{b:Nat}{s:Cr}{L:Sls}(S:St N w b s L)(x:Bool):St N (w.setCell ⟨b,338,none⟩ (.bool x)) b {s with opn:=x} L/\To b w L (w.setCell ⟨b,338,none⟩ (.bool x)) L:=
 ⟨St.cell (s:={s with opn:=x}) S.row (S.its.same rfl rfl rfl rfl rfl rfl rfl rfl) 338 _ (fun j hj=>zl7 s L x j hj),jT w 338 _ (fun g hg=>.inl hg)⟩
theorem St.setWd{N:Nat}{w:World}{b:Nat}{s:Cr}{L:Sls}(S:St N w b s L)(x:Nat)(hx:x<96)(v:Int):St N (w.setCell ⟨b,141+x,none⟩ (.int .u32 v)) b {s with wd:=upI s.wd x v} L/\To b w L (w.setCell ⟨b,141+x,none⟩ (.int .u32 v)) L:=
 ⟨St.cell (s:={s with wd:=upI s.wd x v}) S.row (S.its.same rfl rfl rfl rfl rfl rfl rfl rfl) (141+x) _ (fun j hj=>zoF s L x v (by omega) (by omega) j hj),jT w (141+x) _ (fun g hg=>.inl hg)⟩
theorem St.setTh{N:Nat}{w:World}{b:Nat}{s:Cr}{L:Sls}(S:St N w b s L)(x:Nat)(hx:x<96)(v:Bool):St N (w.setCell ⟨b,237+x,none⟩ (.bool v)) b {s with th:=upB s.th x v} L/\To b w L (w.setCell ⟨b,237+x,none⟩ (.bool v)) L:=
 ⟨St.cell (s:={s with th:=upB s.th x v}) S.row (S.its.same rfl rfl rfl rfl rfl rfl rfl rfl) (237+x) _ (fun j hj=>zoG s L x v (by omega) (by omega) j hj),jT w (237+x) _ (fun g hg=>.inl hg)⟩
structure Nms(s:Cr):Prop where
 low:33<=s.phys
 high:s.phys<=96
 dis:Dis s.phys s.regs s.free
theorem zby{l:List Int}{i:Nat}(h:i<l.length):l.getD i 0∈l:=by
 rw[List.getD_eq_getElem?_getD,List.getElem?_eq_getElem h]
 exact List.getElem_mem h
theorem Nms.may{s:Cr}(h:Nms s):Re.Hy.MayBe s.phys s.free.length s.regs (fun i=>s.free.getD i 0):=by
 refine .mk' h.low h.high h.dis.rm (fun i hi=>h.dis.rf _ (zby hi)) h.dis.inj (fun i j hi hj e=>?_) (fun i j hi hj e=>h.dis.apart i hi (by rw[e];exact zby hj))
 simp only[List.getD_eq_getElem?_getD,List.getElem?_eq_getElem hi,List.getElem?_eq_getElem hj,Option.getD_some]at e
 exact(List.getElem_inj h.dis.nod).1 e
theorem Nms.idle{s:Cr}(h:Nms s){x:Int}(h0:0<=x)(h1:x<s.phys)(hf:x∉s.free)(hr:∀r,r<32->s.regs r≠x):Re.Hy.Idle s.phys s.free.length s.regs (fun i=>s.free.getD i 0) x:=
 .mk' h0 h1 hr (fun i hi e=>hf (by rw[<-e];exact zby hi))
theorem Nms.rg{s:Cr}(h:Nms s):Re.Rg s.regs:=fun k hk=>by
 have:=h.dis.rm k hk
 have:=h.high
 exact WalkArith.wf_i64 (by omega)
theorem keyed{X G:Prop}(h:X->G)(x:X):G:=h x
structure DonAt(l:List Sl)(q:Int)(m:Nat):Prop where
 first:First (waits q) l m
 lt:m<l.length
 is:donS l q=l.set m (q,true)
theorem zoX{N:Nat}{w:World}{b:Nat}{s:Cr}{L:Sls}(S:St N w b s L)(q:Int)(m:Nat)(hd:DonAt s.slots q m)(hn:s.slots.length<=100000)(W:World)(hW:Below w.heap.size w W):
  Calls prog 100 #[L.s,.int .i64 q] W fun e w'=>(∃a c,e=.returned (.tuple #[.slice a (donS s.slots q).length c,.bool true])/\LC w' a (donS s.slots q).length c 2 (scs (donS s.slots q))/\FarC W.heap.size a)/\Below W.heap.size W w':=by
 obtain⟨a,c,e,hl⟩:=S.its.isl
 rw[e,hd.is]
 exact zg9 a s.slots.length c q s.slots m hd.first hd.lt (by omega) W (hl.below (Nat.le_refl _) hW)
theorem zp8{N:Nat}{w:World}{b:Nat}{s:Cr}{L:Sls}(S:St N w b s L)(hw:(s.slots.length:Int)<s.win)(hm:First (above s.tak) s.slots s.slots.length)(hn:s.slots.length<=100000)(W:World)(hW:Below w.heap.size w W):
  Calls prog 76 #[L.s,.int .i64 s.win,.int .i64 s.tak] W fun e w'=>(∃a c,e=.returned (.tuple #[.slice a (s.slots++[(s.tak,false)]).length c,.bool true])/\LC w' a (s.slots++[(s.tak,false)]).length c 2 (scs (s.slots++[(s.tak,false)]))/\FarC W.heap.size a)/\Below W.heap.size W w':=by
 obtain⟨a,c,e,hl⟩:=S.its.isl
 rw[e]
 exact zg8 a s.slots.length c s.win s.tak hw s.slots hm (by omega) W (hl.below (Nat.le_refl _) hW)
theorem zfR{N:Nat}{w:World}{b:Nat}{s:Cr}{L:Sls}(S:St N w b s L)(hw:s.win<=(s.slots.length:Int))(W:World):
  Calls prog 76 #[L.s,.int .i64 s.win,.int .i64 s.tak] W fun e w'=>(∃a c,e=.returned (.tuple #[.slice a 0 c,.bool false]))/\Below W.heap.size W w':=by
 obtain⟨a,c,e,hl⟩:=S.its.isl
 rw[e]
 refine(zfB a s.slots.length c s.win s.tak hw W).mono ?_
 rintro e w' ⟨⟨a',c',h1,_⟩,h2⟩
 exact⟨⟨a',c',h1⟩,h2⟩
theorem cCut{N:Nat}{w:World}{b:Nat}{s:Cr}{L:Sls}(S:St N w b s L)(q:Int)(hn:s.slots.length<=100000)(W:World)(hW:Below w.heap.size w W):
  Calls prog 135 #[L.s,.int .i64 q] W fun e w'=>zcd W (yV s.slots q) (cutS s.slots q) e w':=by
 obtain⟨a,c,e,hl⟩:=S.its.isl
 rw[e]
 exact zjr a s.slots.length c q s.slots (by omega) W (hl.below (Nat.le_refl _) hW)
theorem cPop{N:Nat}{w:World}{b:Nat}{s:Cr}{L:Sls}(S:St N w b s L)(most:Int)(m:Nat)(hm:Goes s.slots most m)(hn:s.slots.length<=100000)(W:World)(hW:Below w.heap.size w W):
  Calls prog 37 #[L.s,.int .i64 most] W fun e w'=>zcd W (s.slots.drop m) (jG s.slots m) e w':=by
 obtain⟨a,c,e,hl⟩:=S.its.isl
 rw[e]
 exact zjp a s.slots.length c most s.slots m hm (by omega) W (hl.below (Nat.le_refl _) hW)
abbrev mpL(s:Cr)(L:Sls):List Value:=(rowOf (mat s.phys s.regs L.f) 34).toList
theorem St.names{N:Nat}{w:World}{b:Nat}{s:Cr}{L:Sls}(S:St N w b s L):w.rangeAt b 107 (mpL s L):=jB S.row (by omega) (zjT s L)
theorem jf(P:Int)(r:Nat->Int)(v:Value):(prog.info? 54).map (·.size)=some (rowOf (mat P r v) 34).toList.length:=by
 rw[Re.zem,Array.length_toList,zf]
theorem zmi(P:Int)(r:Nat->Int)(a:Option Addr)(n c:Nat)(i:Nat):(mat P r (.slice a n c) i).oneCell'=true:=by
 unfold mat
 split
 ·rfl
 ·split<;>rfl
theorem kH(P:Int)(r:Nat->Int)(a:Option Addr)(n c:Nat):(rowOf (mat P r (.slice a n c)) 34).all (·.oneCell')=true:=je _ _ fun i _=>zmi _ _ _ _ _ i
theorem zp9{N:Nat}{w:World}{b:Nat}{s:Cr}{L:Sls}(S:St N w b s L)(hN:Nms s)(k:Nat)(k0:k≠0)(k1:k<32)(hf:s.free≠[])(W:World)(hW:Below w.heap.size w W):
  Calls prog 116 #[.agg (mpL s L).toArray,.int .i64 k] W fun e w'=>(∃a c,e=.returned (.tuple #[.agg (rowOf (mat s.phys (up s.regs k (s.free.headD 0)) (.slice a s.free.tail.length c)) 34),.int .i64 (s.free.headD 0),.int .i64 (s.regs k),.bool true])/\Re.Lie w' a s.free.tail.length c (fun i=>s.free.tail.getD i 0)/\FarC W.heap.size a)/\Below W.heap.size W w':=by
 obtain⟨a,c,e,hl⟩:=S.its.ifr
 have hlen:0<s.free.length:=List.length_pos_iff.2 hf
 have hT:(mpL s L).toArray=mcs s.phys s.regs (.slice a s.free.length c):=by rw[xQ,<-e]
 refine(Re.zhq (mpL s L).toArray s.phys s.regs (fun i=>s.free.getD i 0) a s.free.length c hT hN.may (by rw[hT];rfl) (by rw[hT];rfl) hN.rg k (by omega) k1 hlen W (hl.below (Nat.le_refl _) hW)).mono ?_
 rintro e' w' ⟨⟨a',c',rfl,h2,h3⟩,h4⟩
 have e1:s.free.length-1=s.free.tail.length:=by simp
 have e2:s.free.getD 0 0=s.free.headD 0:=by cases s.free<;>rfl
 have e3:∀i,tl (fun i=>s.free.getD i 0) i=s.free.tail.getD i 0:=fun i=>by
  cases s.free with
  |nil=>rfl
  |cons x l=>rfl
 refine⟨⟨a',c',?_,?_,h3⟩,h4⟩
 ·rw[xQ,e1]
  simp only[e2]
 ·rw[<-e1]
  exact h2.congr fun i _=>e3 i
theorem zqa{N:Nat}{w:World}{b:Nat}{s:Cr}{L:Sls}(S:St N w b s L)(hN:Nms s)(k:Nat)(k0:k≠0)(k1:k<32)(x:Int)(x0:0<=x)(x1:x<s.phys)(hf:x∉s.free)(hr:∀r,r<32->s.regs r≠x)(W:World)(hW:Below w.heap.size w W):
  Calls prog 136 #[.agg (mpL s L).toArray,.int .i64 k,.int .i64 x] W fun e w'=>(∃a c,e=.returned (.tuple #[.agg (rowOf (mat s.phys (up s.regs k x) (.slice a (s.regs k::s.free).length c)) 34),.bool true])/\Re.Lie w' a (s.regs k::s.free).length c (fun i=>(s.regs k::s.free).getD i 0)/\FarC W.heap.size a)/\Below W.heap.size W w':=by
 obtain⟨a,c,e,hl⟩:=S.its.ifr
 have hT:(mpL s L).toArray=mcs s.phys s.regs (.slice a s.free.length c):=by rw[xQ,<-e]
 refine(Re.zhu (mpL s L).toArray s.phys s.regs (fun i=>s.free.getD i 0) a s.free.length c hT hN.may (by rw[hT];rfl) (by rw[hT];rfl) hN.rg k (by omega) k1 x (hN.idle x0 x1 hf hr) W (hl.below (Nat.le_refl _) hW)).mono ?_
 rintro e' w' ⟨⟨a',c',rfl,h2,h3⟩,h4⟩
 refine⟨⟨a',c',?_,?_,h3⟩,h4⟩
 ·rw[xQ,List.length_cons]
 ·rw[List.length_cons]
  exact h2.congr fun i _=>by
   unfold hd
   cases i with
   |zero=>rfl
   |succ i=>simp
theorem zoY{N:Nat}{w:World}{b:Nat}{s:Cr}{L:Sls}(S:St N w b s L)(hN:Nms s)(x:Int)(x0:0<=x)(x1:x<s.phys)(hf:x∉s.free)(hr:∀r,r<32->s.regs r≠x)(W:World)(hW:Below w.heap.size w W):
  Calls prog 64 #[.agg (mpL s L).toArray,.int .i64 x] W fun e w'=>(∃a c,e=.returned (.tuple #[.agg (rowOf (mat s.phys s.regs (.slice a (s.free++[x]).length c)) 34),.bool true])/\Re.Lie w' a (s.free++[x]).length c (fun i=>(s.free++[x]).getD i 0)/\FarC W.heap.size a)/\Below W.heap.size W w':=by
 obtain⟨a,c,e,hl⟩:=S.its.ifr
 have hT:(mpL s L).toArray=mcs s.phys s.regs (.slice a s.free.length c):=by rw[xQ,<-e]
 refine(Re.zhr (mpL s L).toArray s.phys s.regs (fun i=>s.free.getD i 0) a s.free.length c hT hN.may (by rw[hT];rfl) (by rw[hT];rfl) hN.rg x (hN.idle x0 x1 hf hr) W (hl.below (Nat.le_refl _) hW)).mono ?_
 rintro e' w' ⟨⟨a',c',rfl,h2,h3⟩,h4⟩
 refine⟨⟨a',c',?_,?_,h3⟩,h4⟩
 ·rw[xQ,List.length_append]
  rfl
 ·rw[List.length_append]
  exact h2.congr fun i hi=>by
   unfold en
   simp only[List.getD_eq_getElem?_getD]
   split
   ·rw[List.getElem?_append_left (by omega)]
   ·rw[List.getElem?_append_right (by omega),show i-s.free.length=0 by omega]
    rfl
end Go.Proofs.YtpiohehijkpghabGreatDoor.Co
