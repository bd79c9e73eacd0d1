/- What a core's small functions come to. -/
import Derived.Deep.RegionHeld3
import Derived.Test.YtpiohehijkpghacGreatDoorG15
namespace Go.Proofs.YtpiohehijkpghacGreatDoor.Co
open Go.RowKit
open Hy
open Wi Od Re.Hy
open Gu.Hy (Tb tcs)
set_option linter.unusedVariables false
set_option linter.unusedSimpArgs false
def upf (f:Nat→Value) (i:Nat) (v:Value):Nat→Value:=fun j=>if j=i then v else f j
def ups (f:Nat→Value) (o n:Nat) (g:Nat→Value):Nat→Value:=fun j=>if o≤j∧j<o+n then g (j-o)else f j
theorem heap_put {w:World} {b i:Nat} {cs:Array Value} {t:TypeId} {fr:Nat×Nat} {v:Value} (h:w.heap[b]?=some (.cells cs t fr)):(w.setCell ⟨b,i,none⟩ v).heap[b]?=some (.cells (cs.setIfInBounds i v) t fr):=Re.row_setCell h
theorem row_put {w:World} {b i n:Nat} {f:Nat→Value} {t:TypeId} {fr:Nat×Nat} {v:Value} (h:w.heap[b]?=some (.cells (rowOf f n) t fr)):(w.setCell ⟨b,i,none⟩ v).heap[b]?=some (.cells (rowOf (upf f i v) n) t fr):=by
 rw[heap_put h,rowOf_set]
 rfl
theorem heap_puts_other (w:World) (b o:Nat) (vs:List Value) {g:Nat} (h:g≠b):(w.setCells b o vs).heap[g]?=w.heap[g]?:=by
 induction vs generalizing w o with
 |nil=>rfl
 |cons v vs ih=>
  show((w.setCell ⟨b,o,none⟩ v).setCells b (o+1) vs).heap[g]?=_
  rw[ih]
  exact Re.heap_set_other v h
theorem size_puts (w:World) (b o:Nat) (vs:List Value):(w.setCells b o vs).heap.size=w.heap.size:=by
 induction vs generalizing w o with
 |nil=>rfl
 |cons v vs ih=>
  show((w.setCell ⟨b,o,none⟩ v).setCells b (o+1) vs).heap.size=_
  rw[ih]
  simp
theorem row_puts {b n:Nat} {t:TypeId} {fr:Nat×Nat}:∀(vs:List Value) {w:World} {o:Nat} {f:Nat→Value} (g:Nat→Value),(∀j u,vs[j]?=some u→u=g j)→w.heap[b]?=some (.cells (rowOf f n) t fr)→(w.setCells b o vs).heap[b]?=some (.cells (rowOf (ups f o vs.length g) n) t fr)
 |[],w,o,f,g,hg,h=>by
  show w.heap[b]?=_
  rw[h]
  congr 2
  refine rowOf_congr fun i hi=>?_
  unfold ups
  rw[if_neg (by simp only[List.length_nil];omega)]
 |v::vs,w,o,f,g,hg,h=>by
  show((w.setCell ⟨b,o,none⟩ v).setCells b (o+1) vs).heap[b]?=_
  rw[row_puts vs (fun j=>g (j+1)) (fun j u hj=>hg (j+1) u (by simpa using hj)) (row_put h)]
  congr 2
  refine rowOf_congr fun i hi=>?_
  have h0:=hg 0 v rfl
  unfold ups upf
  rw[List.length_cons]
  by_cases e:i=o
  ·subst e
   rw[if_neg (by omega),if_pos rfl,if_pos (by omega),h0,Nat.sub_self]
  ·by_cases e2:o+1≤i∧i<o+1+vs.length
   ·rw[if_pos e2,if_pos (by omega),show i-o=i-(o+1)+1 by omega]
   ·rw[if_neg e2,if_neg e,if_neg (by omega)]
theorem range_of_row {w:World} {b n o m:Nat} {f g:Nat→Value} {t:TypeId} {fr:Nat×Nat} (h:w.heap[b]?=some (.cells (rowOf f n) t fr)) (hm:o+m≤n) (e:∀j,j<m→f (o+j)=g j):w.rangeAt b o (rowOf g m).toList:=fun j v hv=>by
 have hj:j<m:=by have:=(List.getElem?_eq_some_iff.1 hv).1;simpa[rowOf_size]using this
 rw[Array.getElem?_toList,rowOf_get g hj]at hv
 rw[cell_of_row _ _ _ _ _ _ h,rowOf_get f (by omega),e j hj]
 exact hv
theorem there_of_row {w:World} {b n o m:Nat} {f:Nat→Value} {t:TypeId} (h:w.heap[b]?=some (.cells (rowOf f n) t (0,0))) (hm:o+m≤n):w.there b o m:=fun j hj=>by
 refine⟨?_,frozen_of_row _ _ _ _ _ h⟩
 rw[cell_of_row _ _ _ _ _ _ h,rowOf_get f (by omega)]
 rfl
theorem cell_at {w:World} {b n i:Nat} {f:Nat→Value} {t:TypeId} {fr:Nat×Nat} (h:w.heap[b]?=some (.cells (rowOf f n) t fr)) (hi:i<n):w.cell? ⟨b,i,none⟩=some (f i):=by
 rw[cell_of_row _ _ _ _ _ _ h,rowOf_get f hi]
theorem lc_move {w w':World} {a:Option Addr} {n c size:Nat} {cs:List Value} (h:LC w a n c size cs) (hs:w.heap.size≤w'.heap.size) (hb:0<n→∀x,a=some x→w'.heap[x.block]?=w.heap[x.block]?):LC w' a n c size cs:=
 ⟨h.len,h.le,h.top,h.nil,h.one,fun x hx h0=>by
  have e:=hb h0 x hx
  obtain⟨b,o,rfl,hlt,hc⟩:=h.ad x hx h0
  exact⟨b,o,rfl,Nat.lt_of_lt_of_le hlt hs,fun j u hj=>(World.cell?_of_block (w:=w) (a:=⟨b,o+j,none⟩) e).trans (hc j u hj)⟩⟩
theorem lie_move {w w':World} {a:Option Addr} {n c:Nat} {f:Nat→Int} (h:Re.Lie w a n c f) (hb:0<n→∀x,a=some x→w'.heap[x.block]?=w.heap[x.block]?):Re.Lie w' a n c f:=
 ⟨h.le,h.top,h.nil,h.wf,fun x hx h0=>by
  have e:=hb h0 x hx
  obtain⟨b,o,rfl,hc⟩:=h.ad x hx h0
  exact⟨b,o,rfl,fun i hi=>(World.cell?_of_block (w:=w) (a:=⟨b,o+i,none⟩) e).trans (hc i hi)⟩⟩
theorem bys_move {w w':World} {p:Option Addr} {n c:Nat} {f:Nat→Int} (h:Bys w p n c f) (hb:0<n→∀x,p=some x→w'.heap[x.block]?=w.heap[x.block]?):Bys w' p n c f:=
 ⟨h.hn,h.hnc,fun h0=>by
  obtain⟨g,o,rfl,hl⟩:=h.hm h0
  have e:=hb h0 _ rfl
  exact⟨g,o,rfl,fun i hi=>(World.cell?_of_block (w:=w) (a:=⟨g,o+i,none⟩) e).trans (hl i hi)⟩,h.hf⟩
theorem Its.mv {N:Nat} {w w':World} {b:Nat} {s:Cr} {L:Sls} (h:Its N w b s L) (hs:w.heap.size≤w'.heap.size) (h1:∀g,¬own b L g→g<w.heap.size→w'.heap[g]?=w.heap[g]?)
  (h2:∀g,(L.c.ownBlock=some g∨L.u.ownBlock=some g∨L.a.ownBlock=some g)→w'.heap[g]?=w.heap[g]?):Its N w' b s L:=by
 have lt:∀{g:Nat} {j:Nat} {v:Value},w.cell? ⟨g,j,none⟩=some v→g<w.heap.size:=fun hv=>World.block_lt_of_cell? _ _ hv
 obtain⟨pm,cm,em,hm⟩:=h.im
 obtain⟨pf,cf,ef,hf⟩:=h.ifr
 obtain⟨ps,cs,es,hsl⟩:=h.isl
 obtain⟨pr,cr,er,hr⟩:=h.ir
 have nT:0<w.heap.size:=h.tb.size
 have nT2:2<w.heap.size:=h.tb2.size
 have kT:w'.heap[0]?=w.heap[0]?:=h1 _ (fun ho=>by have:=h.base _ ho;have:=h.g1;omega) nT
 have kT2:w'.heap[2]?=w.heap[2]?:=h1 _ (fun ho=>by have:=h.base _ ho;have:=h.g2;omega) nT2
 refine⟨h.ic.move (fun g hg=>h2 g (.inl hg)),h.iu.move (fun g hg=>h2 g (.inr (.inl hg))),h.ia.move (fun g hg=>h2 g (.inr (.inr hg))),
  ⟨pm,cm,em,bys_move hm fun h0 x hx=>?_⟩,⟨pf,cf,ef,lie_move hf fun h0 x hx=>?_⟩,⟨ps,cs,es,lc_move hsl hs fun h0 x hx=>?_⟩,⟨pr,cr,er,lc_move hr hs fun h0 x hx=>?_⟩,
  h.sm,h.sf,h.ss,h.sr,h.base,fun i hi=>(World.cell?_of_block (w:=w) (a:=⟨0,i,none⟩) kT).trans (h.tb i hi),fun i hi=>(World.cell?_of_block (w:=w) (a:=⟨2,i,none⟩) kT2).trans (h.tb2 i hi),h.g1,h.g2,Nat.le_trans h.nN hs⟩
 ·obtain⟨g,o,e,hl⟩:=hm.hm h0
  rw[hx]at e
  cases e
  exact h1 g (h.sm g (by rw[em,hx];rfl) h0) (lt (hl 0 h0))
 ·obtain⟨g,o,e,hl⟩:=hf.ad x hx h0
  subst e
  exact h1 g (h.sf g (by rw[ef,hx];rfl) h0) (lt (hl 0 h0))
 ·obtain⟨g,o,e,hlt,_⟩:=hsl.ad x hx h0
  subst e
  exact h1 g (h.ss g (by rw[es,hx];rfl) h0) hlt
 ·obtain⟨g,o,e,hlt,_⟩:=hr.ad x hx h0
  subst e
  exact h1 g (h.sr g (by rw[er,hx];rfl) h0) hlt
theorem Its.lt {N:Nat} {w:World} {b:Nat} {s:Cr} {L:Sls} (h:Its N w b s L) {g:Nat} (hg:L.c.ownBlock=some g∨L.u.ownBlock=some g∨L.a.ownBlock=some g):g<w.heap.size:=by
 rcases hg with hg|hg|hg
 ·obtain⟨cur,e⟩:=h.ic.block hg;exact(Array.getElem?_eq_some_iff.1 e).1
 ·obtain⟨cur,e⟩:=h.iu.block hg;exact(Array.getElem?_eq_some_iff.1 e).1
 ·obtain⟨cur,e⟩:=h.ia.block hg;exact(Array.getElem?_eq_some_iff.1 e).1
theorem Its.below {N:Nat} {w w':World} {b:Nat} {s:Cr} {L:Sls} (h:Its N w b s L) (hb:Below w.heap.size w w'):Its N w' b s L:=
 h.mv hb.size (fun g _ hg=>hb.block g hg) (fun g hg=>hb.block g (h.lt hg))
theorem St.below {N:Nat} {w w':World} {b:Nat} {s:Cr} {L:Sls} (h:St N w b s L) (hb:Below w.heap.size w w'):St N w' b s L:=
 ⟨(hb.block b (Array.getElem?_eq_some_iff.1 h.row).1).trans h.row,h.its.below hb⟩
theorem Its.ne {N:Nat} {w:World} {b:Nat} {s:Cr} {L:Sls} (h:Its N w b s L) {cs:Array Value} {fr:Nat×Nat} (row:w.heap[b]?=some (.cells cs 66 fr)) {g:Nat} (hg:L.c.ownBlock=some g∨L.u.ownBlock=some g∨L.a.ownBlock=some g):g≠b:=fun e=>by
 subst e
 rcases hg with hg|hg|hg
 ·obtain⟨cur,e⟩:=h.ic.block hg;rw[row]at e;cases e
 ·obtain⟨cur,e⟩:=h.iu.block hg;rw[row]at e;cases e
 ·obtain⟨cur,e⟩:=h.ia.block hg;rw[row]at e;cases e
theorem Its.core {N:Nat} {w w':World} {b:Nat} {s:Cr} {L:Sls} (h:Its N w b s L) {cs:Array Value} {fr:Nat×Nat} (row:w.heap[b]?=some (.cells cs 66 fr)) (hs:w'.heap.size=w.heap.size) (hb:∀g,g≠b→w'.heap[g]?=w.heap[g]?):Its N w' b s L:=
 h.mv (by omega) (fun g hg _=>hb g (fun e=>hg (.inl e))) (fun g hg=>hb g (h.ne row hg))
theorem Its.put {N:Nat} {w:World} {b:Nat} {s:Cr} {L:Sls} (h:Its N w b s L) {cs:Array Value} {fr:Nat×Nat} (row:w.heap[b]?=some (.cells cs 66 fr)) (i:Nat) (v:Value):Its N (w.setCell ⟨b,i,none⟩ v) b s L:=
 h.core row (by simp) (fun g hg=>Re.heap_set_other v hg)
theorem Its.puts {N:Nat} {w:World} {b:Nat} {s:Cr} {L:Sls} (h:Its N w b s L) {cs:Array Value} {fr:Nat×Nat} (row:w.heap[b]?=some (.cells cs 66 fr)) (o:Nat) (vs:List Value):Its N (w.setCells b o vs) b s L:=
 h.core row (size_puts w b o vs) (fun g hg=>heap_puts_other w b o vs hg)
theorem St.cell {N:Nat} {w:World} {b:Nat} {s:Cr} {L:Sls} {f:Nat→Value} (row:w.heap[b]?=some (.cells (rowOf f 339) 66 (0,0))) (its:Its N w b s L) (i:Nat) (v:Value) (hk:∀j,j<339→upf f i v j=kat s L j):St N (w.setCell ⟨b,i,none⟩ v) b s L:=
 ⟨by rw[row_put row,rowOf_congr hk],its.put row i v⟩
theorem St.cells {N:Nat} {w:World} {b:Nat} {s:Cr} {L:Sls} {f g:Nat→Value} {n:Nat} (row:w.heap[b]?=some (.cells (rowOf f 339) 66 (0,0))) (its:Its N w b s L) (o:Nat) (hk:∀j,j<339→ups f o n g j=kat s L j):St N (w.setCells b o (rowOf g n).toList) b s L:=by
 refine⟨?_,its.puts row o _⟩
 have:=row_puts (rowOf g n).toList (w:=w) (o:=o) (b:=b) (f:=f) (n:=339) g (fun j u hj=>?_) row
 ·rw[this]
  congr 2
  rw[show(rowOf g n).toList.length=n by simp[rowOf_size]]
  exact rowOf_congr hk
 ·have hj':j<n:=by have:=(List.getElem?_eq_some_iff.1 hj).1;simpa[rowOf_size]using this
  rw[Array.getElem?_toList,rowOf_get g hj']at hj
  exact(Option.some.inj hj).symm
theorem to_core {b:Nat} {w w':World} {L L':Sls} (ho:w'.os=w.os) (ht:w'.tape=w.tape) (hp:w'.output=w.output) (hs:w'.heap.size=w.heap.size) (hb:∀g,g≠b→w'.heap[g]?=w.heap[g]?) (hf:∀g,own b L' g→own b L g∨w.heap.size≤g):To b w L w' L':=
 ⟨ho,ht,hp,by omega,fun g _ hg=>hb g (fun e=>hg (.inl e)),hf⟩
theorem kat_cyc (s:Cr) (L:Sls) (x:Int):∀j,j<339→upf (kat s L) 40 (.int .i64 x) j=kat {s with cyc:=x} L j:=fun j _=>by
 simp only[upf,kat]
 by_cases e:j=40
 ·subst e;rfl
 ·simp[e]
theorem kat_tak (s:Cr) (L:Sls) (x:Int):∀j,j<339→upf (kat s L) 41 (.int .i64 x) j=kat {s with tak:=x} L j:=fun j _=>by
 simp only[upf,kat]
 by_cases e:j=41
 ·subst e;rfl
 ·simp[e]
theorem kat_bck (s:Cr) (L:Sls) (x:Int):∀j,j<339→upf (kat s L) 42 (.int .i64 x) j=kat {s with bck:=x} L j:=fun j _=>by
 simp only[upf,kat]
 by_cases e:j=42
 ·subst e;rfl
 simp only[e,if_false]
 by_cases h4:j<4
 ·simp only[h4,if_true,if_false]
 ·by_cases h39:j<39
  ·simp only[h4,h39,if_true,if_false]
  ·by_cases h43:j<43
   ·simp only[h4,h39,h43,if_true,if_false]
    have:j=39∨j=40∨j=41:=by omega
    rcases this with e|e|e<;>(subst e;rfl)
   ·by_cases h107:j<107
    ·simp only[h4,h39,h43,h107,if_true,if_false]
    ·by_cases h141:j<141
     ·simp only[h4,h39,h43,h107,h141,if_true,if_false]
     ·by_cases h237:j<237
      ·simp only[h4,h39,h43,h107,h141,h237,if_true,if_false]
      ·by_cases h333:j<333
       ·simp only[h4,h39,h43,h107,h141,h237,h333,if_true,if_false]
       ·simp only[h4,h39,h43,h107,h141,h237,h333,if_false]
theorem kat_fro (s:Cr) (L:Sls) (x:Int):∀j,j<339→upf (kat s L) 337 (.int .u32 x) j=kat {s with fro:=x} L j:=fun j _=>by
 simp only[upf,kat]
 by_cases e:j=337
 ·subst e;rfl
 ·simp[e]
theorem kat_opn (s:Cr) (L:Sls) (x:Bool):∀j,j<339→upf (kat s L) 338 (.bool x) j=kat {s with opn:=x} L j:=fun j _=>by
 simp only[upf,kat]
 by_cases e:j=338
 ·subst e;rfl
 simp only[e,if_false]
 by_cases h4:j<4
 ·simp only[h4,if_true,if_false]
 ·by_cases h39:j<39
  ·simp only[h4,h39,if_true,if_false]
  ·by_cases h43:j<43
   ·simp only[h4,h39,h43,if_true,if_false]
   ·by_cases h107:j<107
    ·simp only[h4,h39,h43,h107,if_true,if_false]
    ·by_cases h141:j<141
     ·simp only[h4,h39,h43,h107,h141,if_true,if_false]
     ·by_cases h237:j<237
      ·simp only[h4,h39,h43,h107,h141,h237,if_true,if_false]
      ·by_cases h333:j<333
       ·simp only[h4,h39,h43,h107,h141,h237,h333,if_true,if_false]
       ·simp only[h4,h39,h43,h107,h141,h237,h333,if_false]
        have:j=333∨j=334∨j=335∨j=336∨j=337:=by omega
        rcases this with e|e|e|e|e<;>(subst e;rfl)
theorem kat_m (s:Cr) (L:Sls) (x:Value):∀j,j<339→upf (kat s L) 39 (x) j=kat s {L with m:=x} j:=fun j _=>by
 simp only[upf,kat]
 by_cases e:j=39
 ·subst e;rfl
 ·simp[e]
theorem kat_s (s:Cr) (L:Sls) (x:Value):∀j,j<339→upf (kat s L) 333 (x) j=kat s {L with s:=x} j:=fun j _=>by
 simp only[upf,kat]
 by_cases e:j=333
 ·subst e;rfl
 ·simp[e]
theorem kat_u (s:Cr) (L:Sls) (x:Value):∀j,j<339→upf (kat s L) 334 (x) j=kat s {L with u:=x} j:=fun j _=>by
 simp only[upf,kat]
 by_cases e:j=334
 ·subst e;rfl
 ·simp[e]
theorem kat_a (s:Cr) (L:Sls) (x:Value):∀j,j<339→upf (kat s L) 335 (x) j=kat s {L with a:=x} j:=fun j _=>by
 simp only[upf,kat]
 by_cases e:j=335
 ·subst e;rfl
 ·simp[e]
theorem kat_r (s:Cr) (L:Sls) (x:Value):∀j,j<339→upf (kat s L) 336 (x) j=kat s {L with r:=x} j:=fun j _=>by
 simp only[upf,kat]
 by_cases e:j=336
 ·subst e;rfl
 ·simp[e]
theorem kat_c (s:Cr) (L:Sls) (x:Value):∀j,j<339→upf (kat s L) 3 x j=kat s {L with c:=x} j:=fun j _=>by
 simp only[upf,kat]
 by_cases e:j=3
 ·subst e;rfl
 simp only[e,if_false]
 by_cases h4:j<4
 ·simp only[h4,if_true,if_false]
  have:j=0∨j=1∨j=2:=by omega
  rcases this with e|e|e<;>(subst e;rfl)
 ·by_cases h39:j<39
  ·simp only[h4,h39,if_true,if_false]
  ·by_cases h43:j<43
   ·simp only[h4,h39,h43,if_true,if_false]
   ·by_cases h107:j<107
    ·simp only[h4,h39,h43,h107,if_true,if_false]
    ·by_cases h141:j<141
     ·simp only[h4,h39,h43,h107,h141,if_true,if_false]
     ·by_cases h237:j<237
      ·simp only[h4,h39,h43,h107,h141,h237,if_true,if_false]
      ·by_cases h333:j<333
       ·simp only[h4,h39,h43,h107,h141,h237,h333,if_true,if_false]
       ·simp only[h4,h39,h43,h107,h141,h237,h333,if_false]
theorem kat_wd (s:Cr) (L:Sls) (x v:Int) (h0:0≤x) (h1:x<96):∀j,j<339→upf (kat s L) (141+x.toNat) (.int .u32 v) j=kat {s with wd:=upI s.wd x v} L j:=fun j _=>by
 simp only[upf,kat]
 by_cases e:j=141+x.toNat
 ·subst e
  rw[if_pos rfl,if_neg (by omega),if_neg (by omega),if_neg (by omega),if_neg (by omega),if_neg (by omega),if_pos (by omega)]
  unfold upI
  rw[if_pos (by omega)]
 simp only[e,if_false]
 by_cases h4:j<4
 ·simp only[h4,if_true,if_false]
 ·by_cases h39:j<39
  ·simp only[h4,h39,if_true,if_false]
  ·by_cases h43:j<43
   ·simp only[h4,h39,h43,if_true,if_false]
   ·by_cases h107:j<107
    ·simp only[h4,h39,h43,h107,if_true,if_false]
    ·by_cases h141:j<141
     ·simp only[h4,h39,h43,h107,h141,if_true,if_false]
     ·by_cases h237:j<237
      ·simp only[h4,h39,h43,h107,h141,h237,if_true,if_false]
       unfold upI
       rw[if_neg (by omega)]
      ·by_cases h333:j<333
       ·simp only[h4,h39,h43,h107,h141,h237,h333,if_true,if_false]
       ·simp only[h4,h39,h43,h107,h141,h237,h333,if_false]
theorem kat_th (s:Cr) (L:Sls) (x:Int) (v:Bool) (h0:0≤x) (h1:x<96):∀j,j<339→upf (kat s L) (237+x.toNat) (.bool v) j=kat {s with th:=upB s.th x v} L j:=fun j _=>by
 simp only[upf,kat]
 by_cases e:j=237+x.toNat
 ·subst e
  rw[if_pos rfl,if_neg (by omega),if_neg (by omega),if_neg (by omega),if_neg (by omega),if_neg (by omega),if_neg (by omega),if_pos (by omega)]
  unfold upB
  rw[if_pos (by omega)]
 simp only[e,if_false]
 by_cases h4:j<4
 ·simp only[h4,if_true,if_false]
 ·by_cases h39:j<39
  ·simp only[h4,h39,if_true,if_false]
  ·by_cases h43:j<43
   ·simp only[h4,h39,h43,if_true,if_false]
   ·by_cases h107:j<107
    ·simp only[h4,h39,h43,h107,if_true,if_false]
    ·by_cases h141:j<141
     ·simp only[h4,h39,h43,h107,h141,if_true,if_false]
     ·by_cases h237:j<237
      ·simp only[h4,h39,h43,h107,h141,h237,if_true,if_false]
      ·by_cases h333:j<333
       ·simp only[h4,h39,h43,h107,h141,h237,h333,if_true,if_false]
        unfold upB
        rw[if_neg (by omega)]
       ·simp only[h4,h39,h43,h107,h141,h237,h333,if_false]
theorem kat_hart (s:Cr) (L:Sls) (R:Nat→Int) (pc st ca:Int):∀j,j<339→ups (kat s L) 4 35 (hat R pc st ca) j=kat {s with R:=R,pc:=pc,st:=st,ca:=ca} L j:=fun j _=>by
 simp only[ups,kat]
 by_cases e:4≤j∧j<4+35
 ·rw[if_pos e,if_neg (by omega),if_pos (by omega)]
 simp only[e,if_false]
 by_cases h4:j<4
 ·simp only[h4,if_true,if_false]
 ·by_cases h39:j<39
  ·simp only[h4,h39,if_true,if_false]
   omega
  ·by_cases h43:j<43
   ·simp only[h4,h39,h43,if_true,if_false]
   ·by_cases h107:j<107
    ·simp only[h4,h39,h43,h107,if_true,if_false]
    ·by_cases h141:j<141
     ·simp only[h4,h39,h43,h107,h141,if_true,if_false]
     ·by_cases h237:j<237
      ·simp only[h4,h39,h43,h107,h141,h237,if_true,if_false]
      ·by_cases h333:j<333
       ·simp only[h4,h39,h43,h107,h141,h237,h333,if_true,if_false]
       ·simp only[h4,h39,h43,h107,h141,h237,h333,if_false]
theorem kat_tb (s:Cr) (L:Sls) (t:Tb):∀j,j<339→ups (kat s L) 43 64 (tat t) j=kat {s with tb:=t} L j:=fun j _=>by
 simp only[ups,kat]
 by_cases e:43≤j∧j<43+64
 ·rw[if_pos e,if_neg (by omega),if_neg (by omega),if_neg (by omega),if_pos (by omega)]
 simp only[e,if_false]
 by_cases h4:j<4
 ·simp only[h4,if_true,if_false]
 ·by_cases h39:j<39
  ·simp only[h4,h39,if_true,if_false]
  ·by_cases h43:j<43
   ·simp only[h4,h39,h43,if_true,if_false]
   ·by_cases h107:j<107
    ·simp only[h4,h39,h43,h107,if_true,if_false]
     omega
    ·by_cases h141:j<141
     ·simp only[h4,h39,h43,h107,h141,if_true,if_false]
     ·by_cases h237:j<237
      ·simp only[h4,h39,h43,h107,h141,h237,if_true,if_false]
      ·by_cases h333:j<333
       ·simp only[h4,h39,h43,h107,h141,h237,h333,if_true,if_false]
       ·simp only[h4,h39,h43,h107,h141,h237,h333,if_false]
theorem kat_names (s:Cr) (L:Sls) (r:Nat→Int) (v:Value) (fr:List Int):∀j,j<339→ups (kat s L) 107 34 (mat s.phys r v) j=kat {s with regs:=r,free:=fr} {L with f:=v} j:=fun j _=>by
 simp only[ups,kat]
 by_cases e:107≤j∧j<107+34
 ·rw[if_pos e,if_neg (by omega),if_neg (by omega),if_neg (by omega),if_neg (by omega),if_pos (by omega)]
 simp only[e,if_false]
 by_cases h4:j<4
 ·simp only[h4,if_true,if_false]
 ·by_cases h39:j<39
  ·simp only[h4,h39,if_true,if_false]
  ·by_cases h43:j<43
   ·simp only[h4,h39,h43,if_true,if_false]
   ·by_cases h107:j<107
    ·simp only[h4,h39,h43,h107,if_true,if_false]
    ·by_cases h141:j<141
     ·simp only[h4,h39,h43,h107,h141,if_true,if_false]
      omega
     ·by_cases h237:j<237
      ·simp only[h4,h39,h43,h107,h141,h237,if_true,if_false]
      ·by_cases h333:j<333
       ·simp only[h4,h39,h43,h107,h141,h237,h333,if_true,if_false]
       ·simp only[h4,h39,h43,h107,h141,h237,h333,if_false]
theorem at_names (s:Cr) (L:Sls):∀j,j<34→kat s L (107+j)=mat s.phys s.regs L.f j:=fun j hj=>by
 unfold kat
 rw[if_neg (by omega),if_neg (by omega),if_neg (by omega),if_neg (by omega),if_pos (by omega),Nat.add_sub_cancel_left]
theorem at_tb (s:Cr) (L:Sls):∀j,j<64→kat s L (43+j)=tat s.tb j:=fun j hj=>by
 unfold kat
 rw[if_neg (by omega),if_neg (by omega),if_neg (by omega),if_pos (by omega),Nat.add_sub_cancel_left]
theorem at_hart (s:Cr) (L:Sls):∀j,j<35→kat s L (4+j)=hat s.R s.pc s.st s.ca j:=fun j hj=>by
 unfold kat
 rw[if_neg (by omega),if_pos (by omega),Nat.add_sub_cancel_left]
theorem at_th (s:Cr) (L:Sls) (x:Int) (h0:0≤x) (h1:x<96):kat s L (237+x.toNat)=.bool (s.th x):=by
 unfold kat
 rw[if_neg (by omega),if_neg (by omega),if_neg (by omega),if_neg (by omega),if_neg (by omega),if_neg (by omega),if_pos (by omega),Nat.add_sub_cancel_left,Int.toNat_of_nonneg h0]
theorem below_put (w:World) (b i:Nat) (v:Value):Below 0 w (w.setCell ⟨b,i,none⟩ v):=(Below.refl 0 w).setCell (p:=⟨b,i,none⟩) (Nat.zero_le _) v
theorem to_put {b:Nat} (w:World) {L L':Sls} (i:Nat) (v:Value) (hf:∀g,own b L' g→own b L g∨w.heap.size≤g):To b w L (w.setCell ⟨b,i,none⟩ v) L':=
 to_core (below_put w b i v).os (below_put w b i v).tape (below_put w b i v).output (by simp) (fun g hg=>Re.heap_set_other v hg) hf
theorem os_puts (w:World) (b o:Nat) (vs:List Value):(w.setCells b o vs).os=w.os∧(w.setCells b o vs).tape=w.tape∧(w.setCells b o vs).output=w.output:=by
 induction vs generalizing w o with
 |nil=>exact⟨rfl,rfl,rfl⟩
 |cons v vs ih=>
  have:=ih (w.setCell ⟨b,o,none⟩ v) (o+1)
  have h2:=below_put w b o v
  exact⟨this.1.trans h2.os,this.2.1.trans h2.tape,this.2.2.trans h2.output⟩
theorem to_puts {b:Nat} (w:World) {L L':Sls} (o:Nat) (vs:List Value) (hf:∀g,own b L' g→own b L g∨w.heap.size≤g):To b w L (w.setCells b o vs) L':=
 to_core (os_puts w b o vs).1 (os_puts w b o vs).2.1 (os_puts w b o vs).2.2 (size_puts w b o vs) (fun g hg=>heap_puts_other w b o vs hg) hf
theorem Its.setR {N:Nat} {w:World} {b:Nat} {s:Cr} {L:Sls} (h:Its N w b s L) {v:Value} {l:List Int} (hr:∃p cap,v=.slice p l.length cap∧LC w p l.length cap 1 (ics l)) (hs:∀g,v.ownBlock=some g→0<l.length→¬own b L g):Its N w b {s with scr:=l} {L with r:=v}:=
 ⟨h.ic,h.iu,h.ia,h.im,h.ifr,h.isl,hr,h.sm,h.sf,h.ss,hs,h.base,h.tb,h.tb2,h.g1,h.g2,h.nN⟩
theorem Its.setS {N:Nat} {w:World} {b:Nat} {s:Cr} {L:Sls} (h:Its N w b s L) {v:Value} {l:List Sl} (hr:∃p cap,v=.slice p l.length cap∧LC w p l.length cap 2 (scs l)) (hs:∀g,v.ownBlock=some g→0<l.length→¬own b L g):Its N w b {s with slots:=l} {L with s:=v}:=
 ⟨h.ic,h.iu,h.ia,h.im,h.ifr,hr,h.ir,h.sm,h.sf,hs,h.sr,h.base,h.tb,h.tb2,h.g1,h.g2,h.nN⟩
theorem Its.setF {N:Nat} {w:World} {b:Nat} {s:Cr} {L:Sls} (h:Its N w b s L) {v:Value} {l:List Int} (r:Nat→Int) (hr:∃p cap,v=.slice p l.length cap∧Re.Lie w p l.length cap (fun i=>l.getD i 0)) (hs:∀g,v.ownBlock=some g→0<l.length→¬own b L g):Its N w b {s with regs:=r,free:=l} {L with f:=v}:=
 ⟨h.ic,h.iu,h.ia,h.im,hr,h.isl,h.ir,h.sm,hs,h.ss,h.sr,h.base,h.tb,h.tb2,h.g1,h.g2,h.nN⟩
theorem Its.setM {N:Nat} {w:World} {b:Nat} {s:Cr} {L:Sls} (h:Its N w b s L) {v:Value} {f:Nat→Int} (hr:∃p cap,v=.slice p s.n cap∧Bys w p s.n cap f) (hs:∀g,v.ownBlock=some g→0<s.n→¬own b L g):Its N w b {s with f:=f} {L with m:=v}:=
 ⟨h.ic,h.iu,h.ia,hr,h.ifr,h.isl,h.ir,hs,h.sf,h.ss,h.sr,h.base,h.tb,h.tb2,h.g1,h.g2,h.nN⟩
theorem not_own {b:Nat} {w:World} {L L':Sls} (hf:∀g,own b L' g→own b L g∨w.heap.size≤g) {g:Nat} (hg:¬own b L g) (hl:g<w.heap.size):¬own b L' g:=fun h=>by
 rcases hf g h with h|h
 ·exact hg h
 ·omega
theorem Its.blk {N:Nat} {w:World} {b:Nat} {s:Cr} {L:Sls} (h:Its N w b s L):(∀g,L.m.ownBlock=some g→0<s.n→g<w.heap.size)∧(∀g,L.f.ownBlock=some g→0<s.free.length→g<w.heap.size)∧(∀g,L.s.ownBlock=some g→0<s.slots.length→g<w.heap.size)∧(∀g,L.r.ownBlock=some g→0<s.scr.length→g<w.heap.size):=by
 obtain⟨pm,cm,em,hm⟩:=h.im
 obtain⟨pf,cf,ef,hf⟩:=h.ifr
 obtain⟨ps,cs,es,hsl⟩:=h.isl
 obtain⟨pr,cr,er,hr⟩:=h.ir
 have ob:∀{p:Option Addr} {n c g:Nat},(Value.slice p n c).ownBlock=some g→∃x,p=some x∧x.block=g:=fun{p n c g} e=>by
  cases p with
  |none=>cases e
  |some x=>exact⟨x,rfl,Option.some.inj e⟩
 refine⟨fun g hg h0=>?_,fun g hg h0=>?_,fun g hg h0=>?_,fun g hg h0=>?_⟩
 ·rw[em]at hg
  obtain⟨x,hx,rfl⟩:=ob hg
  obtain⟨g,o,e,hl⟩:=hm.hm h0
  rw[hx]at e
  cases e
  exact World.block_lt_of_cell? _ _ (hl 0 h0)
 ·rw[ef]at hg
  obtain⟨x,hx,rfl⟩:=ob hg
  obtain⟨g,o,e,hl⟩:=hf.ad x hx h0
  subst e
  exact World.block_lt_of_cell? _ _ (hl 0 h0)
 ·rw[es]at hg
  obtain⟨x,hx,rfl⟩:=ob hg
  obtain⟨g,o,e,hlt,_⟩:=hsl.ad x hx h0
  subst e
  exact hlt
 ·rw[er]at hg
  obtain⟨x,hx,rfl⟩:=ob hg
  obtain⟨g,o,e,hlt,_⟩:=hr.ad x hx h0
  subst e
  exact hlt
theorem Its.own {N:Nat} {w w':World} {b:Nat} {s:Cr} {L L':Sls} (h:Its N w b s L) (hT:To b w L w' L') (hm:L'.m=L.m) (hf:L'.f=L.f) (hs:L'.s=L.s) (hr:L'.r=L.r) {co:List Cm} {un:List Dg} {ak:List Ac}
  (hc:Us w' 68 11 L'.c co.length (flat cml co)) (hu:Us w' 132 28 L'.u un.length (flat dgl un)) (ha:Us w' 135 7 L'.a ak.length (flat cel ak)):Its N w' b {s with coms:=co,under:=un,asked:=ak} L':=by
 obtain⟨b1,b2,b3,b4⟩:=h.blk
 have nT:0<w.heap.size:=h.tb.size
 have nT2:2<w.heap.size:=h.tb2.size
 have kT:w'.heap[0]?=w.heap[0]?:=hT.block _ nT (fun ho=>by have:=h.base _ ho;have:=h.g1;omega)
 have kT2:w'.heap[2]?=w.heap[2]?:=hT.block _ nT2 (fun ho=>by have:=h.base _ ho;have:=h.g2;omega)
 obtain⟨pm,cm,em,hm'⟩:=h.im
 obtain⟨pf,cf,ef,hf'⟩:=h.ifr
 obtain⟨ps,cs,es,hs'⟩:=h.isl
 obtain⟨pr,cr,er,hr'⟩:=h.ir
 have ow:∀{p:Option Addr} {n c:Nat} {x:Addr},p=some x→(Value.slice p n c).ownBlock=some x.block:=fun e=>by rw[e];rfl
 refine⟨hc,hu,ha,⟨pm,cm,hm.trans em,bys_move hm' fun h0 x hx=>?_⟩,⟨pf,cf,hf.trans ef,lie_move hf' fun h0 x hx=>?_⟩,⟨ps,cs,hs.trans es,lc_move hs' hT.size fun h0 x hx=>?_⟩,⟨pr,cr,hr.trans er,lc_move hr' hT.size fun h0 x hx=>?_⟩,
  fun g hg h0=>?_,fun g hg h0=>?_,fun g hg h0=>?_,fun g hg h0=>?_,fun g hg=>?_,fun i hi=>(World.cell?_of_block (w:=w) (a:=⟨0,i,none⟩) kT).trans (h.tb i hi),fun i hi=>(World.cell?_of_block (w:=w) (a:=⟨2,i,none⟩) kT2).trans (h.tb2 i hi),h.g1,h.g2,Nat.le_trans h.nN hT.size⟩
 ·have e:=ow (n:=s.n) (c:=cm) hx
  exact hT.block _ (b1 _ (em▸e) h0) (h.sm _ (em▸e) h0)
 ·have e:=ow (n:=s.free.length) (c:=cf) hx
  exact hT.block _ (b2 _ (ef▸e) h0) (h.sf _ (ef▸e) h0)
 ·have e:=ow (n:=s.slots.length) (c:=cs) hx
  exact hT.block _ (b3 _ (es▸e) h0) (h.ss _ (es▸e) h0)
 ·have e:=ow (n:=s.scr.length) (c:=cr) hx
  exact hT.block _ (b4 _ (er▸e) h0) (h.sr _ (er▸e) h0)
 ·rw[hm]at hg;exact not_own hT.fresh (h.sm g hg h0) (b1 g hg h0)
 ·rw[hf]at hg;exact not_own hT.fresh (h.sf g hg h0) (b2 g hg h0)
 ·rw[hs]at hg;exact not_own hT.fresh (h.ss g hg h0) (b3 g hg h0)
 ·rw[hr]at hg;exact not_own hT.fresh (h.sr g hg h0) (b4 g hg h0)
 ·rcases hT.fresh g hg with h'|h'
  ·exact h.base g h'
  ·have:=h.nN;omega
theorem cgives_any (i:In) (w:World):Calls Tryz.prog 93 #[ivI i] w fun e w'=>e=.returned (.int .i64 (gvs i))∧Below w.heap.size w w':=by
 obtain⟨op,rd,s1,s2,I⟩:=i
 unfold gvs
 simp only[]
 by_cases h:op=46
 ·subst h
  go_enter Tryz.func93,Tryz.ntmps93
  go_wp2
  go_ret
  exact⟨rfl,(Below.refl _ _).alloc (Nat.le_refl _) _⟩
 ·have hq:(op==46)=false:=beq_eq_false_iff_ne.2 h
  rw[if_neg h]
  go_enter Tryz.func93,Tryz.ntmps93
  go_wp2
  go_ret
  exact⟨rfl,(Below.refl _ _).alloc (Nat.le_refl _) _⟩
theorem cstores_any (i:In) (w:World):Calls Tryz.prog 125 #[ivI i] w fun e w'=>e=.returned (.bool (sts i))∧Below w.heap.size w w':=by
 obtain⟨op,rd,s1,s2,I⟩:=i
 unfold sts
 simp only[]
 go_enter Tryz.func125,Tryz.ntmps125
 go_wp2
 all_goals(go_ret;refine⟨?_,(Below.refl _ _).alloc (Nat.le_refl _) _⟩;simp_all;try omega)
theorem cturns_any (i:In) (w:World):Calls Tryz.prog 116 #[ivI i] w fun e w'=>e=.returned (.bool (trn i))∧Below w.heap.size w w':=by
 obtain⟨op,rd,s1,s2,I⟩:=i
 unfold trn
 simp only[]
 go_enter Tryz.func116,Tryz.ntmps116
 go_wp2
 all_goals(go_ret;refine⟨?_,(Below.refl _ _).alloc (Nat.le_refl _) _⟩;simp_all;try omega)
theorem cwithin_any (x a b:Int) (w:World):Calls Tryz.prog 26 #[.int .i64 x,.int .i64 a,.int .i64 b] w fun e w'=>e=.returned (.bool (decide (a≤x∧x≤b)))∧w'=w:=by
 go_enter Tryz.func26,Tryz.ntmps26
 go_wp2
 all_goals(go_ret;refine⟨?_,rfl⟩;simp_all;try omega)
def mayC (win phys wide:Int):Bool:=decide (1≤win∧win≤32)&&decide (33≤phys∧phys≤96)&&decide (1≤wide∧wide≤4)
theorem cMay_any (win phys wide:Int) (w:World):Calls Tryz.prog 16 #[.agg #[.int .i64 win,.int .i64 phys,.int .i64 wide]] w fun e w'=>e=.returned (.bool (mayC win phys wide))∧Below w.heap.size w w':=by
 unfold mayC
 obtain⟨a,ha⟩:∃a,a=decide (1≤win∧win≤32):=⟨_,rfl⟩
 obtain⟨b,hb⟩:∃a,a=decide (33≤phys∧phys≤96):=⟨_,rfl⟩
 obtain⟨c,hc⟩:∃a,a=decide (1≤wide∧wide≤4):=⟨_,rfl⟩
 have C1:=fun w=>cwithin_any win 1 32 w
 have C2:=fun w=>cwithin_any phys 33 96 w
 have C3:=fun w=>cwithin_any wide 1 4 w
 rw[←ha]at C1⊢
 rw[←hb]at C2⊢
 rw[←hc]at C3⊢
 clear ha hb hc
 cases a with
 |false=>
  go_enter Tryz.func16,Tryz.ntmps16
  go_wp2_with fail
  refine(C1 _).mono ?_
  rintro e w' ⟨rfl,rfl⟩
  go_wp2
  go_ret
  exact⟨rfl,(Below.refl _ _).alloc (Nat.le_refl _) _⟩
 |true=>
  cases b with
  |false=>
   go_enter Tryz.func16,Tryz.ntmps16
   go_wp2_with fail
   refine(C1 _).mono ?_
   rintro e w' ⟨rfl,rfl⟩
   go_wp2_with fail
   refine(C2 _).mono ?_
   rintro e w' ⟨rfl,rfl⟩
   go_wp2
   go_ret
   exact⟨rfl,(Below.refl _ _).alloc (Nat.le_refl _) _⟩
  |true=>
   go_enter Tryz.func16,Tryz.ntmps16
   go_wp2_with fail
   refine(C1 _).mono ?_
   rintro e w' ⟨rfl,rfl⟩
   go_wp2_with fail
   refine(C2 _).mono ?_
   rintro e w' ⟨rfl,rfl⟩
   go_wp2_with fail
   refine(C3 _).mono ?_
   rintro e w' ⟨rfl,rfl⟩
   go_wp2
   go_ret
   exact⟨rfl,(Below.refl _ _).alloc (Nat.le_refl _) _⟩
end Go.Proofs.YtpiohehijkpghacGreatDoor.Co
