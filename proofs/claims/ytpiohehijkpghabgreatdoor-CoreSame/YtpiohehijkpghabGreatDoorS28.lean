/- One that is taken in: the core is as it should be. Plain mathematics. -/
import Derived.Test.YtpiohehijkpghabGreatDoorS27
set_option linter.unusedSimpArgs false
set_option linter.unusedVariables false
namespace Go.Proofs.YtpiohehijkpghabGreatDoor.Co
open Go.RowKit
open Hy
open Wi Od Re.Hy
open Gu.Hy (Tb)
theorem zhE{M:Mc}{s:Cr}{m:Nat->Int}(I:Inv M s m){l1 l2:List Dg}{o:Dg}(hu:s.under=l1++o::l2){o':Dg}(hL:∀pc m f,Loc M s.n s.wd s.th pc m f o->Loc M s.n s.wd s.th pc m f o')
  (e1:o'.seq=o.seq) (e2:o'.rd=o.rd) (e3:o'.to=o.to) (e4:nx o'=nx o) (h5:o.st≠2) (h6:o'.st≠2) (e7:o'.i=o.i) (e8:o'.pc=o.pc) (hl:0<=o'.late/\o'.late<=9) {t:Cr}
  (ht:t={s with under:=l1++o'::l2}):Inv M t m:=by
 subst ht
 have hch:=yg I hu
 have hd:=zdy I hu
 have hmem:∀q,q∈l1++o'::l2->q=o'\/q∈l1++o::l2:=fun q hq=>by
  rcases List.mem_append.1 hq with h|h
  ·exact .inr (List.mem_append_left _ h)
  ·rcases List.mem_cons.1 h with h|h
   ·exact .inl h
   ·exact .inr (List.mem_append_right _ (List.mem_cons_of_mem _ h))
 have htos:tos (l1++o'::l2)=tos (l1++o::l2):=by rw[qm,qm,zdv e2 e3]
 have hns:¬stp o:=fun h=>h5 h.1
 have hns':¬stp o':=fun h=>h6 h.1
 have hnm:nm (mE m l1) o'=nm (mE m l1) o:=by unfold nm;rw[e2,e3]
 have hnf:nf (fE s.f l1) o'=nf (fE s.f l1) o:=by unfold nf;rw[if_neg h5,if_neg h6]
 refine⟨I.base,?_,?_,?_,?_,?_,?_,?_,?_,?_,?_⟩
 ·show Ch M s.n s.wd s.th s.pc m s.f (l1++o'::l2)
  rw[jR]at hch⊢
  obtain⟨g1,g2,g3,g4,g5⟩:=hch
  refine⟨g1,fun _=>g2 (by simp),hL _ _ _ g3,fun h=>absurd h hns',?_⟩
  rw[e4,hnm,hnf]
  exact g5
 ·show mE m (l1++o'::l2)=s.regs
  rw[<-I.reg,hu,ku,ku]
  exact zhA e2 e3
 ·have hpE:pE s.pc (l1++o'::l2)=pE s.pc (l1++o::l2):=by
   rw[zav,zav]
   show pE (nx o') l2=pE (nx o) l2
   rw[e4]
  rcases I.en with⟨g1,g2,g3⟩|⟨g1,l,q,g2,g3⟩
  ·left
   refine⟨g1,by rw[hpE,<-hu];exact g2,fun q hq=>?_⟩
   rcases hmem q hq with h|h
   ·rw[h];exact hns'
   ·exact g3 q (by rw[hu];exact h)
  ·right
   refine⟨g1,?_⟩
   rw[hu]at g2
   rcases List.eq_nil_or_concat l2 with e|⟨r,y,e⟩
   ·subst e
    have:o=q:=by have:=(List.append_inj' g2 rfl).2;simpa using this
    rw[<-this]at g3
    exact absurd g3 hns
   ·rw[List.concat_eq_append]at e
    subst e
    have g2':(l1++o::r)++[y]=l++[q]:=by simpa using g2
    have hqy:y=q:=by have:=(List.append_inj' g2' rfl).2;simpa using this
    exact⟨l1++o'::r,y,by simp,by rw[hqy];exact g3⟩
 ·show Dis s.phys m (tos (l1++o'::l2)++s.free)
  rw[htos]
  exact hd
 ·show 32+((tos (l1++o'::l2)++s.free).length:Int)=s.phys
  rw[htos,<-hu]
  exact I.cnt
 ·exact kC (hu▸I.rise) e1
 ·intro q hq
  rcases hmem q hq with h|h
  ·rw[h,e1];exact I.low o (by rw[hu];simp)
  ·exact I.low q (by rw[hu];exact h)
 ·show s.slots=(l1++o'::l2).map slot
  rw[I.slo,hu,List.map_append,List.map_append,List.map_cons,List.map_cons]
  have:slot o'=slot o:=by unfold slot;rw[e1];simp[h5,h6]
  rw[this]
 ·have hA:As s.n s.wd (l1++o::l2) s.asked:=hu▸I.ask
  have hom:o∈l1++o::l2:=by simp
  have hent:entA o'=entA o:=by unfold entA;rw[if_neg h5,if_neg h6,e1]
  refine⟨fun q hq=>?_,fun p hp=>?_,fun p hp h=>?_,fun p hp h1 h2 h3=>?_⟩
  ·obtain⟨p,hp,e,he⟩:=hA.of q hq
   by_cases hpo:p∈l1\/p∈l2
   ·refine⟨p,?_,e,he⟩
    rcases hpo with h|h
    ·exact List.mem_append_left _ h
    ·exact List.mem_append_right _ (List.mem_cons_of_mem _ h)
   ·have:p=o:=by
     rcases List.mem_append.1 hp with h|h
     ·exact absurd (.inl h) hpo
     ·rcases List.mem_cons.1 h with h|h
      ·exact h
      ·exact absurd (.inr h) hpo
    subst this
    exact⟨o',List.mem_append_right _ (List.mem_cons_self ..),e.trans e1.symm,fun h=>⟨by rw[e7];exact(he h).1,by rw[hent];exact(he h).2⟩⟩
  ·rcases hmem p hp with h|h
   ·have:=hA.own o hom
    unfold ownA at this⊢
    rw[h,e1,e8];exact this
   ·exact hA.own p h
  ·rcases hmem p hp with h'|h'
   ·rw[h',hent];rw[h',e7]at h;exact hA.sto o hom h
   ·exact hA.sto p h' h
  ·rcases hmem p hp with h'|h'
   ·rw[h']at h1;exact absurd h1 h6
   ·exact hA.lod p h' h1 h2 h3
 ·intro q hq
  rcases hmem q hq with h|h
  ·rw[h];exact hl
  ·exact I.lat q (by rw[hu];exact h)
theorem yi{l1 l2:List Dg}{o:Dg}(h:Rise (l1++o::l2)):(l1++o::l2).find? (fun p=>decide (p.seq=o.seq))=some o:=by
 obtain⟨h1,h2,h3⟩:=zG.1 h
 rw[List.find?_append,List.find?_eq_none.2 (fun p hp=>by have:=h3 p hp o (List.mem_cons_self ..);simp;omega)]
 simp
theorem jt{l:List Dg}{q:Int}{o:Dg}(h:l.find? (fun p=>decide (p.seq=q))=some o):∃l1 l2,l=l1++o::l2/\o.seq=q:=by
 have h1:=List.find?_some h
 have h2:=List.mem_of_find?_eq_some h
 obtain⟨l1,l2,e⟩:=List.append_of_mem h2
 exact⟨l1,l2,e,by simpa using h1⟩
theorem zhF{M:Mc}{s:Cr}{m:Nat->Int}(I:Inv M s m){l1 l2:List Dg}{o:Dg}(hu:s.under=l1++o::l2)(x many:Int):Inv M {s with asked:=s.asked++[ldA o.seq x many]} m:=by
 refine⟨I.base,I.ch,I.reg,I.en,I.dis,I.cnt,I.rise,I.low,I.slo,⟨fun q hq=>?_,fun p hp=>List.mem_append_left _ (I.ask.own p hp),fun p hp h=>List.mem_append_left _ (I.ask.sto p hp h),fun p hp h1 h2 h3=>List.mem_append_left _ (I.ask.lod p hp h1 h2 h3)⟩,I.lat⟩
 rcases List.mem_append.1 hq with h|h
 ·exact I.ask.of q h
 ·rw[List.mem_singleton.1 h]
  exact⟨o,by show o∈s.under;rw[hu];simp,rfl,fun h=>by cases h⟩
theorem zoz{n:Nat}{wd:Int->Int}{l1 l2:List Dg}{k:List Ac}(A:As n wd (l1++l2) k)(hr:Rise (l1++l2)){s:Int}(h1:∀o∈l1,o.seq<s)(h2:∀o∈l2,s<=o.seq)(hc:∀o∈l1,cmOk o)(f:Nat->Int)(a:Nat):
  sb k s k.length a f=fun i=>fE f l1 (a+i):=by
 funext i
 have:=zlV A hr h1 h2 hc f (a+i)
 unfold sb
 rw[<-this]
 rfl
theorem zlY{th:Int->Bool}{o:Dg}{c:Cm}{x:Int}(h:th x=true):thF th o c x=true:=by
 unfold thF upB
 split
 ·exact h
 ·show(if x=o.to then true else th x)=true
  split
  ·rfl
  ·exact h
structure Step(s t:Cr)(l1 l2:List Dg)(o o':Dg):Prop where
 same:Same s t
 scr:t.scr=s.scr
 tb:t.tb=s.tb
 thr:∀x,s.th x=true->t.th x=true
 under:∃l2' l3,l2=l2'++l3/\t.under=l1++o'::l2'
theorem zjL{M:Mc}(hM:MOk M){s:Cr}{m:Nat->Int}(I:Inv M s m){l1 l2:List Dg}{o:Dg}(hu:s.under=l1++o::l2)(h1:o.st=1):
  Inv M (lod1 s o) m/\∃o',Step s (lod1 s o) l1 l2 o o'/\(o'=o\/(o'.st=2/\o'.seq=o.seq))/\(seeU s.asked o.seq=true->o'.st=2):=by
 have hch:=yg I hu
 have hloc:=zad hch
 have hr:Rise (l1++o::l2):=hu▸I.rise
 have hld:ldn o.i.op≠0:=by
  rcases hloc.sta with h|⟨_,h⟩|h
  ·omega
  ·exact h
  ·omega
 have hz:(fet M s.n (fE s.f l1) (pE s.pc l1)).2=0:=Classical.byContradiction fun hz=>by have:=(hloc.bad hz).1;omega
 have hth:=hloc.thr (by omega) hz
 have hA:As s.n s.wd (l1++o::l2) s.asked:=hu▸I.ask
 have hsb:=zoz hA hr (s:=o.seq) (fun q hq=>(zG.1 hr).2.2 q hq o (List.mem_cons_self ..)) (fun q hq=>by
  rcases List.mem_cons.1 hq with h|h
  ·rw[h];exact Int.le_refl _
  ·have:=(zV.1 (zG.1 hr).2.1).1 q h;omega) (zkJ hM (jR.1 hch).1) s.f (place o.i (s.wd o.a)).toNat
 unfold lod1
 simp only[]
 split
 ·rename_i hf
  split
  ·rename_i hs
   refine⟨I,o,⟨Same.refl s,rfl,rfl,fun _ h=>h,l2,[],by simp,hu⟩,.inl rfl,fun h=>?_⟩
   rw[h]at hs
   cases hs
  ·have hI:=zhF I hu (place o.i (s.wd o.a)) (ldn o.i.op)
   have hc:onC o.pc o.i.rd (ldv o.i.op (sb s.asked o.seq s.asked.length (place o.i (s.wd o.a)).toNat s.f))=comC M s.n (fE s.f l1) o.i o.pc (s.wd o.a) (s.wd o.b):=by
    unfold comC qa
    rw[if_pos hld,if_pos hf,hsb]
   obtain⟨g1,g2,g3,g4,gt,l2',l3,g5,g6⟩:=yh hM hI (s:={s with asked:=s.asked++[ldA o.seq (place o.i (s.wd o.a)) (ldn o.i.op)]}) hu (by omega) hth hc (fun _ _=>by simp)
   exact⟨g1,_,⟨(show Same s {s with asked:=s.asked++[ldA o.seq (place o.i (s.wd o.a)) (ldn o.i.op)]}from⟨rfl,rfl,rfl,rfl,rfl,rfl,rfl,rfl,rfl,rfl,rfl,rfl⟩).trans g2,g3,g4,fun x h=>by rw[gt];exact zlY h,l2',l3,g5,g6⟩,.inr ⟨rfl,rfl⟩,fun _=>rfl⟩
 ·rename_i hf
  have hc:qe o.pc 3=comC M s.n (fE s.f l1) o.i o.pc (s.wd o.a) (s.wd o.b):=by
   unfold comC qa
   rw[if_pos hld,if_neg hf]
  obtain⟨g1,g2,g3,g4,gt,l2',l3,g5,g6⟩:=yh hM I hu (by omega) hth hc (fun _ h=>absurd h hf)
  exact⟨g1,_,⟨g2,g3,g4,fun x h=>by rw[gt];exact zlY h,l2',l3,g5,g6⟩,.inr ⟨rfl,rfl⟩,fun _=>rfl⟩
theorem zbk{M:Mc}(hM:MOk M){s:Cr}{m:Nat->Int}(I:Inv M s m){l1 l2:List Dg}{o:Dg}(hu:s.under=l1++o::l2)(h1:o.st=1):
  Inv M (lodS s o.seq) m/\∃o',Step s (lodS s o.seq) l1 l2 o o'/\o'.seq=o.seq/\(o'=o\/o'={o with late:=o.late-1}/\0<o.late\/o'.st=2)/\(seeU s.asked o.seq=true->o'.st=2\/o'.st=1/\o'.late=o.late-1/\0<o.late):=by
 have hr:Rise (l1++o::l2):=hu▸I.rise
 unfold lodS
 rw[hu,yi hr]
 simp only[]
 split
 ·rename_i hlt
  rw[vq hr]
  have hlat:=I.lat o (by rw[hu];simp)
  refine⟨zhE I hu (o':={o with late:=o.late-1}) (fun pc m f h=>⟨h.hpc,h.ins,h.rd,h.a,h.b,h.old,h.bad,h.thr,h.com,h.fil,h.gsd,h.sta,h.way⟩) rfl rfl rfl rfl (by omega) (by show o.st≠2;omega) rfl rfl (by show 0<=o.late-1/\o.late-1<=9;omega) rfl,{o with late:=o.late-1},⟨⟨rfl,rfl,rfl,rfl,rfl,rfl,rfl,rfl,rfl,rfl,rfl,rfl⟩,rfl,rfl,fun _ h=>h,l2,[],by simp,rfl⟩,rfl,.inr (.inl ⟨rfl,hlt⟩),fun _=>.inr ⟨h1,rfl,hlt⟩⟩
 ·obtain⟨g1,o',g2,g3,g4⟩:=zjL hM I hu h1
  refine⟨g1,o',g2,?_,?_,fun h=>.inl (g4 h)⟩
  ·rcases g3 with h|h
   ·rw[h]
   ·exact h.2
  ·rcases g3 with h|h
   ·exact .inl h
   ·exact .inr (.inr h.1)
theorem zbl{M:Mc}(hM:MOk M){s:Cr}{m:Nat->Int}(I:Inv M s m){l1 l2:List Dg}{o:Dg}(hu:s.under=l1++o::l2)(h1:o.st=0)(hth:s.th o.a=true/\s.th o.b=true):
  Inv M (sta1 M s o) m/\∃o',Step s (sta1 M s o) l1 l2 o o'/\o'.seq=o.seq/\o'.late=o.late/\(o'.st=2\/o'.st=1):=by
 have hch:=yg I hu
 have hloc:=zad hch
 have hr:Rise (l1++o::l2):=hu▸I.rise
 unfold sta1
 split
 ·rename_i hld
  have hlat:=I.lat o (by rw[hu];simp)
  rw[hu,vq hr]
  refine⟨zhE I hu (o':={o with st:=1}) (fun pc m f h=>⟨h.hpc,h.ins,h.rd,h.a,h.b,h.old,fun hz=>?_,fun _ _=>hth,fun h=>?_,fun h=>?_,fun _=>h.gsd (by omega),.inr (.inl ⟨rfl,hld⟩),fun _=>h.way (by omega)⟩) rfl rfl rfl ?_ (by omega) (by show(1:Int)≠2;omega) rfl rfl hlat rfl,{o with st:=1},⟨⟨rfl,rfl,rfl,rfl,rfl,rfl,rfl,rfl,rfl,rfl,rfl,rfl⟩,rfl,rfl,fun _ h=>h,l2,[],by simp,rfl⟩,rfl,rfl,.inr rfl⟩
  ·have:=(h.bad hz).1;omega
  ·exact absurd (show(1:Int)=2 from h) (by omega)
  ·exact absurd (show(1:Int)=2 from h) (by omega)
  ·unfold nx
   rw[if_neg (show¬(1:Int)=2 by omega),if_neg (by omega)]
 ·rename_i hld
  have hc:M.dow o.i o.pc (s.wd o.a) (s.wd o.b) s.n=comC M s.n (fE s.f l1) o.i o.pc (s.wd o.a) (s.wd o.b):=by
   unfold comC
   rw[if_neg hld]
  obtain⟨g1,g2,g3,g4,gt,l2',l3,g5,g6⟩:=yh hM I hu (by omega) hth hc (fun h=>absurd h hld)
  exact⟨g1,_,⟨g2,g3,g4,fun x h=>by rw[gt];exact zlY h,l2',l3,g5,g6⟩,rfl,rfl,.inl rfl⟩
theorem yF{M:Mc}(P:Cr->Dg->Prop)(g:Cr->Int->Cr)
  (step:∀(s:Cr) (m:Nat->Int) (l1 l2:List Dg) (o:Dg),Inv M s m->s.under=l1++o::l2->P s o->Inv M (g s o.seq) m/\∃o',Step s (g s o.seq) l1 l2 o o'/\o'.seq=o.seq)
  (no:∀(s:Cr) (q:Int),s.under.find? (fun p=>decide (p.seq=q))=none->g s q=s)
  (keep:∀(s t:Cr) (o:Dg),(∀x,s.th x=true->t.th x=true)->P s o->P t o):∀(qs:List Int) (s:Cr) (m:Nat->Int),Inv M s m->qs.Nodup->(∀q∈qs,∀o∈s.under,o.seq=q->P s o)->
   Inv M (qs.foldl g s) m/\Same s (qs.foldl g s)/\(qs.foldl g s).scr=s.scr/\(qs.foldl g s).tb=s.tb/\(∀x,s.th x=true->(qs.foldl g s).th x=true)/\(s.under=[]->(qs.foldl g s).under=[])/\∀h l,s.under=h::l->∃h' l',(qs.foldl g s).under=h'::l'/\h'.seq=h.seq/\(h.seq∉qs->h'=h)
 |[],s,m,I,_,_=>⟨I,Same.refl s,rfl,rfl,fun _ h=>h,fun h=>h,fun h l e=>⟨h,l,e,rfl,fun _=>rfl⟩⟩
 |q::qs,s,m,I,hn,hP=>by
  obtain⟨hnq,hn2⟩:=List.nodup_cons.1 hn
  cases hf:s.under.find? (fun p=>decide (p.seq=q))with
  |none=>
   have e:(q::qs).foldl g s=qs.foldl g s:=by rw[List.foldl_cons,no s q hf]
   rw[e]
   obtain⟨g1,g2,g3,g4,g5,g6,g7⟩:=yF P g step no keep qs s m I hn2 (fun q' hq'=>hP q' (List.mem_cons_of_mem _ hq'))
   refine⟨g1,g2,g3,g4,g5,g6,fun h l e=>?_⟩
   obtain⟨h',l',e1,e2,e3⟩:=g7 h l e
   exact⟨h',l',e1,e2,fun hh=>e3 (fun hm=>hh (List.mem_cons_of_mem _ hm))⟩
  |some o=>
   obtain⟨l1,l2,hu,rfl⟩:=jt hf
   obtain⟨I',o',S,hs'⟩:=step s m l1 l2 o I hu (hP o.seq (List.mem_cons_self ..) o (by rw[hu];simp) rfl)
   obtain⟨l2',l3,e1,e2⟩:=S.under
   obtain⟨g1,g2,g3,g4,g5,g6,g7⟩:=yF P g step no keep qs (g s o.seq) m I' hn2 (fun q' hq' p hp hpq=>by
    refine keep s _ p S.thr (hP q' (List.mem_cons_of_mem _ hq') p ?_ hpq)
    rw[e2]at hp
    rw[hu,e1]
    rcases List.mem_append.1 hp with h|h
    ·exact List.mem_append_left _ h
    ·rcases List.mem_cons.1 h with h|h
     ·rw[h,hs']at hpq;exact absurd hq' (by rw[<-hpq];exact hnq)
     ·exact List.mem_append_right _ (List.mem_cons_of_mem _ (List.mem_append_left _ h)))
   rw[List.foldl_cons]
   refine⟨g1,S.same.trans g2,g3.trans S.scr,g4.trans S.tb,fun x h=>g5 x (S.thr x h),fun h=>by rw[h]at hu;simp at hu,fun h l e=>?_⟩
   rw[hu]at e
   cases l1 with
   |nil=>
    simp at e
    obtain⟨h',l',f1,f2,f3⟩:=g7 o' l2' (by rw[e2];rfl)
    exact⟨h',l',f1,by rw[f2,hs',e.1],fun hh=>absurd (by rw[e.1];exact List.mem_cons_self ..) hh⟩
   |cons k l1=>
    simp at e
    obtain⟨h',l',f1,f2,f3⟩:=g7 k (l1++o'::l2') (by rw[e2];rfl)
    exact⟨h',l',f1,by rw[f2,e.1],fun hh=>by rw[f3 (by rw[e.1];exact fun hm=>hh (List.mem_cons_of_mem _ hm)),e.1]⟩
def mu(o:Dg):Int:=if o.st=2 then 1 else if o.st=1 then o.late+2 else 12
theorem xz{l:List Dg}(h:Rise l)(p:Dg->Bool):((l.filter p).map (·.seq)).Nodup:=by
 unfold Rise at h
 have:((l.filter p).map (·.seq)).Pairwise (·<·):=h.sublist (List.filter_sublist.map _)
 exact this.imp fun h=>by omega
theorem zhG{M:Mc}{s:Cr}{m:Nat->Int}(I:Inv M s m){h:Dg}{l:List Dg}(hu:s.under=h::l):seeU s.asked h.seq=true:=by
 unfold seeU
 rw[List.all_eq_true]
 intro q hq
 obtain⟨o,ho,e,_⟩:=I.ask.of q hq
 have hr:=I.rise
 rw[hu]at ho hr
 have:h.seq<=o.seq:=by
  rcases List.mem_cons.1 ho with h'|h'
  ·rw[h'];exact Int.le_refl _
  ·have:=(zV.1 hr).1 o h';omega
 have e2:decide (q.seq<h.seq)=false:=decide_eq_false (by omega)
 unfold unk ahd
 rw[e2]
 simp
theorem zeq{M:Mc}(hM:MOk M){s:Cr}{m:Nat->Int}(I:Inv M s m):
  Inv M (load s) m/\Same s (load s)/\(load s).scr=s.scr/\(load s).tb=s.tb/\(s.under=[]->(load s).under=[])/\∀h l,s.under=h::l->∃h' l',(load s).under=h'::l'/\(h.st≠1->h'=h)/\(h.st=1->mu h'<mu h):=by
 have F:=yF (M:=M) (fun s o=>o.st=1) lodS (fun s m l1 l2 o I hu h1=>by
   obtain⟨g1,o',g2,g3,_⟩:=zbk hM I hu h1
   exact⟨g1,o',g2,g3⟩) (fun s q h=>by unfold lodS;rw[h]) (fun s t o _ h=>h)
 have hn:=xz I.rise (fun o=>decide (o.st=1))
 have hP:∀q∈(s.under.filter fun o=>decide (o.st=1)).map (·.seq),∀o∈s.under,o.seq=q->o.st=1:=fun q hq o ho e=>by
  obtain⟨p,hp,rfl⟩:=List.mem_map.1 hq
  obtain⟨hp1,hp2⟩:=List.mem_filter.1 hp
  rw[jX I.rise ho hp1 e]
  simpa using hp2
 obtain⟨g1,g2,g3,g4,g5,g6,g7⟩:=F _ s m I hn hP
 refine⟨g1,g2,g3,g4,g6,fun h l e=>?_⟩
 by_cases h1:h.st=1
 ·have hqs:(s.under.filter fun o=>decide (o.st=1)).map (·.seq)=h.seq::(l.filter fun o=>decide (o.st=1)).map (·.seq):=by
   rw[e,List.filter_cons_of_pos (by simpa using h1)];rfl
  obtain⟨I',o',S,e1,_,e3⟩:=zbk hM I (l1:=[]) e h1
  obtain⟨l2',l3,k1,k2⟩:=S.under
  have hmu:=e3 (zhG I e)
  rw[hqs]at hn hP
  obtain⟨hn1,hn2⟩:=List.nodup_cons.1 hn
  obtain⟨_,_,_,_,_,_,f7⟩:=F _ (lodS s h.seq) m I' hn2 (fun q hq p hp hpq=>by
   refine hP q (List.mem_cons_of_mem _ hq) p ?_ hpq
   rw[k2]at hp
   rw[e,k1]
   rcases List.mem_cons.1 hp with h'|h'
   ·rw[h',e1]at hpq;exact absurd hq (by rw[<-hpq];exact hn1)
   ·exact List.mem_cons_of_mem _ (List.mem_append_left _ h'))
  obtain⟨h',l',f1,f2,f3⟩:=f7 o' l2' (by rw[k2];rfl)
  refine⟨h',l',?_,fun h=>absurd h1 h,fun _=>?_⟩
  ·unfold load
   rw[hqs,List.foldl_cons]
   exact f1
  ·rw[f3 (by rw[e1];exact hn1)]
   have hlat:=I.lat h (by rw[e];simp)
   unfold mu
   rw[if_neg (by omega:¬h.st=2),if_pos h1]
   rcases hmu with h2|⟨h2,h3,h4⟩
   ·rw[if_pos h2];omega
   ·rw[if_neg (by omega),if_pos h2];omega
 ·obtain⟨h',l',f1,f2,f3⟩:=g7 h l e
  refine⟨h',l',f1,fun _=>f3 (fun hm=>?_),fun h=>absurd h h1⟩
  obtain⟨p,hp,hpe⟩:=List.mem_map.1 hm
  obtain⟨hp1,hp2⟩:=List.mem_filter.1 hp
  rw[jX I.rise hp1 (by rw[e];simp) hpe]at hp2
  exact h1 (by simpa using hp2)
theorem zhH{M:Mc}{s:Cr}{m:Nat->Int}(I:Inv M s m)(k:List Int):Inv M {s with scr:=k} m:=
 ⟨I.base,I.ch,I.reg,I.en,I.dis,I.cnt,I.rise,I.low,I.slo,I.ask,I.lat⟩
theorem zjM(s:Cr)(k:List Int):Same s {s with scr:=k}:=⟨rfl,rfl,rfl,rfl,rfl,rfl,rfl,rfl,rfl,rfl,rfl,rfl⟩
theorem zer{s:Cr}{l:List Int}{q:Int}:q∈turn s l↔q∈l:=by
 unfold turn
 cases l with
 |nil=>simp
 |cons x r=>simp only[];split<;>simp
theorem zax{s:Cr}{l:List Int}(h:l.Nodup):(turn s l).Nodup:=by
 unfold turn
 cases l with
 |nil=>simp
 |cons x r=>
  obtain⟨h1,h2⟩:=List.nodup_cons.1 h
  simp only[]
  split
  ·exact List.nodup_cons.2 ⟨by simpa using h1,by unfold List.Nodup at*;rw[List.pairwise_reverse];exact h2.imp fun h=>h.symm⟩
  ·exact h
theorem zhI{s:Cr}{x:Int}{r:List Int}:∃r',turn s (x::r)=x::r':=by
 unfold turn
 simp only[]
 split
 ·exact⟨_,rfl⟩
 ·exact⟨_,rfl⟩
theorem zcr{M:Mc}(hM:MOk M){s:Cr}{m:Nat->Int}(I:Inv M s m)(hw:1<=s.wide):
  Inv M (start M s) m/\Same s (start M s)/\(start M s).tb=s.tb/\(s.under=[]->(start M s).under=[])/\∀h l,s.under=h::l->∃h' l',(start M s).under=h'::l'/\(h.st≠0->h'=h)/\(h.st=0->mu h'<mu h):=by
 have F:=yF (M:=M) (fun s o=>o.st=0/\s.th o.a=true/\s.th o.b=true) (staS M) (fun s m l1 l2 o I hu h1=>by
   have e:staS M s o.seq=sta1 M s o:=by unfold staS;rw[hu,yi (hu▸I.rise)]
   obtain⟨g1,o',g2,g3,_⟩:=zbl hM I hu h1.1 h1.2
   rw[e]
   exact⟨g1,o',g2,g3⟩) (fun s q h=>by unfold staS;rw[h]) (fun s t o ht h=>⟨h.1,ht _ h.2.1,ht _ h.2.2⟩)
 obtain⟨s1,hs1⟩:∃s1,s1=if 1<(ready s).length then chS s else s:=⟨_,rfl⟩
 have hex:∃k,s1={s with scr:=k}:=by
  rw[hs1]
  split
  ·exact⟨_,rfl⟩
  ·exact⟨s.scr,rfl⟩
 obtain⟨k,hk⟩:=hex
 have I1:Inv M s1 m:=by rw[hk];exact zhH I k
 have hu1:s1.under=s.under:=by rw[hk]
 have hth1:s1.th=s.th:=by rw[hk]
 have hS1:Same s s1:=by rw[hk];exact zjM s k
 have htb1:s1.tb=s.tb:=by rw[hk]
 obtain⟨qs,hqs⟩:∃qs,qs=(turn s (ready s)).take s.wide.toNat:=⟨_,rfl⟩
 have hst:start M s=qs.foldl (staS M) s1:=by rw[hqs,hs1];rfl
 have hn:qs.Nodup:=by rw[hqs];exact(zax (xz I.rise _)).sublist (List.take_sublist _ _)
 have hP:∀q∈qs,∀o∈s1.under,o.seq=q->o.st=0/\s1.th o.a=true/\s1.th o.b=true:=fun q hq o ho e=>by
  rw[hqs]at hq
  have hq:=zer.1 (List.mem_of_mem_take hq)
  unfold ready at hq
  obtain⟨p,hp,rfl⟩:=List.mem_map.1 hq
  obtain⟨hp1,hp2⟩:=List.mem_filter.1 hp
  rw[hu1]at ho
  rw[hth1,jX I.rise ho hp1 e]
  simp at hp2
  exact⟨hp2.1.1,hp2.1.2,hp2.2⟩
 obtain⟨g1,g2,g3,g4,g5,g6,g7⟩:=F qs s1 m I1 hn hP
 rw[hst]
 refine⟨g1,hS1.trans g2,g4.trans htb1,fun h=>g6 (hu1.trans h),fun h l e=>?_⟩
 have hloc:=zad (l1:=[]) (show Ch M s.n s.wd s.th s.pc m s.f ([]++h::l)from e▸I.ch)
 by_cases h0:h.st=0
 ·obtain⟨_,hra,hrb⟩:=yf hM hloc
  have ha:s.th h.a=true:=by rw[hloc.a];exact(I.base _ hra).1
  have hb:s.th h.b=true:=by rw[hloc.b];exact(I.base _ hrb).1
  have hrd:∃r,ready s=h.seq::r:=by
   unfold ready
   rw[e,List.filter_cons_of_pos (by simp[h0,ha,hb])]
   exact⟨_,rfl⟩
  obtain⟨r,hr⟩:=hrd
  obtain⟨r',hr'⟩:=zhI (s:=s) (x:=h.seq) (r:=r)
  obtain⟨w,hw'⟩:∃w,s.wide.toNat=w+1:=⟨s.wide.toNat-1,by omega⟩
  have hq:qs=h.seq::r'.take w:=by rw[hqs,hr,hr',hw',List.take_succ_cons]
  have e1:s1.under=[]++h::l:=hu1.trans e
  have hsta:staS M s1 h.seq=sta1 M s1 h:=by
   unfold staS
   rw[e1,yi (show Rise ([]++h::l)from e▸I.rise)]
  obtain⟨I',o',S,k1,k2,k3⟩:=zbl hM I1 e1 h0 (by rw[hth1];exact⟨ha,hb⟩)
  rw[<-hsta]at I' S
  obtain⟨l2',l3,k4,k5⟩:=S.under
  rw[hq]at hn hP
  obtain⟨hn1,hn2⟩:=List.nodup_cons.1 hn
  obtain⟨_,_,_,_,_,_,f7⟩:=F _ (staS M s1 h.seq) m I' hn2 (fun q hq p hp hpq=>by
   have hpm:p∈s1.under:=by
    rw[k5]at hp
    rw[e1,k4]
    rcases List.mem_cons.1 hp with h'|h'
    ·rw[h',k1]at hpq;exact absurd hq (by rw[<-hpq];exact hn1)
    ·exact List.mem_cons_of_mem _ (List.mem_append_left _ h')
   obtain⟨x1,x2,x3⟩:=hP q (List.mem_cons_of_mem _ hq) p hpm hpq
   exact⟨x1,S.thr _ x2,S.thr _ x3⟩)
  obtain⟨h',l',f1,f2,f3⟩:=f7 o' l2' (by rw[k5];rfl)
  refine⟨h',l',by rw[hq,List.foldl_cons];exact f1,fun h=>absurd h0 h,fun _=>?_⟩
  rw[f3 (by rw[k1];exact hn1)]
  have hlat:=I.lat h (by rw[e];simp)
  unfold mu
  rw[if_neg (by omega:¬h.st=2),if_neg (by omega:¬h.st=1),k2]
  rcases k3 with h2|h2
  ·rw[if_pos h2];omega
  ·rw[if_neg (by omega),if_pos h2];omega
 ·obtain⟨h',l',f1,f2,f3⟩:=g7 h l (hu1.trans e)
  refine⟨h',l',f1,fun _=>f3 (fun hm=>?_),fun h=>absurd h h0⟩
  exact h0 (hP _ hm h (by rw[hu1,e];simp) rfl).1
theorem zhJ{M:Mc}(hM:MOk M){s:Cr}{m:Nat->Int}(I:Inv M s m)(ho:s.opn=true){o:Dg}{wd:Int->Int}{th:Int->Bool}{regs:Nat->Int}{free:List Int}{A:List Ac}{scr:List Int}{fro:Int}{op:Bool}{t:Cr}
  (ht:t={s with slots:=s.slots++[slot o],under:=s.under++[o],tak:=s.tak+1,asked:=A,regs:=regs,free:=free,wd:=wd,th:=th,scr:=scr,fro:=fro,opn:=op})
  (hseq:o.seq=s.tak) (htak:0<=s.tak) (hL:Loc M s.n wd th (pE s.pc s.under) (mE m s.under) (fE s.f s.under) o)
  (hfree:s.free=(if o.rd=0 then[]else[o.to])++free) (hregs:regs=nm s.regs o)
  (hw:∀x,(o.rd≠0->x≠o.to)->wd x=s.wd x/\th x=s.th x)
  (hA:A=s.asked++(ownA o::if sts o.i then[st0 o.seq]else[])) (hst:o.st=0\/(o.st=2/\sts o.i=false/\ldn o.i.op=0))
  (hlat:0<=o.late/\o.late<=9)
  (hen:(op=true/\fro=nx o/\¬stp o)\/(op=false/\stp o)):Inv M t m:=by
 have hno:∀q∈s.under,¬stp q:=by
  rcases I.en with⟨_,_,h⟩|⟨h,_⟩
  ·exact h
  ·rw[ho]at h;cases h
 have htos:tos (s.under++[o])++free=tos s.under++s.free:=by
  rw[qm,hfree,zT]
  split<;>simp[tos]
 have hfr:o.rd≠0->o.to∈s.free:=fun h=>by rw[hfree,if_neg h];simp
 have hd:=I.dis
 have hnm:∀r,r<32->o.rd≠0->m r≠o.to:=fun r hr h e=>hd.apart r hr (by rw[e];exact List.mem_append_right _ (hfr h))
 have hnt:o.rd≠0->o.to∉tos s.under:=fun h hm=>by
  have:=(List.nodup_append.1 hd.nod).2.2 _ hm _ (hfr h)
  exact this rfl
 have hM':∀q∈s.under,q.rd≠0->(o.rd≠0->q.to≠o.to):=fun q hq hr h e=>hnt h (e▸vm hq hr)
 subst ht
 have hmem:∀q,q∈s.under++[o]->q∈s.under\/q=o:=fun q hq=>by
  rcases List.mem_append.1 hq with h|h
  ·exact .inl h
  ·exact .inr (List.mem_singleton.1 h)
 have hrd:∀q∈s.under,(wd q.a=s.wd q.a/\th q.a=s.th q.a)/\(wd q.b=s.wd q.b/\th q.b=s.th q.b):=fun q hq=>by
  obtain⟨l1,l2,e⟩:=List.append_of_mem hq
  have hc:=I.ch
  rw[e]at hc
  obtain⟨ha,hb⟩:=zeo hM hc
  have hsub:∀x,x∈tos l1->o.rd≠0->x≠o.to:=fun x hx h ex=>hnt h (by rw[e,qm,<-ex];exact List.mem_append_left _ hx)
  refine⟨hw q.a fun h=>?_,hw q.b fun h=>?_⟩
  ·rcases ha with⟨r,hr,e2⟩|e2
   ·rw[e2];exact hnm r hr h
   ·exact hsub _ e2 h
  ·rcases hb with⟨r,hr,e2⟩|e2
   ·rw[e2];exact hnm r hr h
   ·exact hsub _ e2 h
 refine⟨fun r hr=>?_,?_,?_,?_,?_,?_,?_,?_,?_,?_,?_⟩
 ·obtain⟨e1,e2⟩:=hw (m r) (fun h=>hnm r hr h)
  show th (m r)=true/\wd (m r)=s.R r
  rw[e1,e2]
  exact I.base r hr
 ·show Ch M s.n wd th s.pc m s.f (s.under++[o])
  rw[jR]
  refine⟨yB I.ch (fun q hq=>⟨fun hs ha hb=>?_,fun h0=>?_⟩),fun _=>hno,hL,fun _=>rfl,trivial⟩
  ·obtain⟨⟨e1,e2⟩,e3,e4⟩:=hrd q hq
   rw[e1,e2,e3,e4]
   exact⟨ha,hb,rfl,rfl⟩
  ·obtain⟨e1,e2⟩:=hw q.to (hM' q hq h0)
   exact⟨e2,e1⟩
 ·show mE m (s.under++[o])=regs
  rw[ku,I.reg,hregs]
  rfl
 ·have hpE:pE s.pc (s.under++[o])=nx o:=by rw[zav];rfl
  rcases hen with⟨h1,h2,h3⟩|⟨h1,h2⟩
  ·left
   refine⟨h1,h2.trans hpE.symm,fun q hq=>?_⟩
   rcases hmem q hq with h|h
   ·exact hno q h
   ·rw[h];exact h3
  ·exact .inr ⟨h1,s.under,o,rfl,h2⟩
 ·show Dis s.phys m (tos (s.under++[o])++free)
  rw[htos]
  exact hd
 ·show 32+((tos (s.under++[o])++free).length:Int)=s.phys
  rw[htos]
  exact I.cnt
 ·show Rise (s.under++[o])
  rw[zG]
  refine⟨I.rise,by simp[Rise],fun q hq p hp=>?_⟩
  rw[List.mem_singleton.1 hp,hseq]
  exact(I.low q hq).2
 ·intro q hq
  show 0<=q.seq/\q.seq<s.tak+1
  rcases hmem q hq with h|h
  ·have:=I.low q h;omega
  ·rw[h,hseq];omega
 ·show s.slots++[slot o]=(s.under++[o]).map slot
  rw[I.slo,List.map_append]
  rfl
 ·show As s.n wd (s.under++[o]) A
  have hent:sts o.i=true->entA o=st0 o.seq:=fun h=>by
   unfold entA
   rcases hst with h'|⟨_,h',_⟩
   ·rw[if_neg (by omega)]
   ·rw[h]at h';cases h'
  have hold:∀a∈s.asked,a∈A:=fun a ha=>by rw[hA];exact List.mem_append_left _ ha
  refine⟨fun q hq=>?_,fun p hp=>?_,fun p hp h=>?_,fun p hp h1 h2 h3=>?_⟩
  ·rw[hA]at hq
   rcases List.mem_append.1 hq with h|h
   ·obtain⟨p,hp,e,he⟩:=I.ask.of q h
    exact⟨p,List.mem_append_left _ hp,e,he⟩
   ·refine⟨o,by simp,?_⟩
    rcases List.mem_cons.1 h with h|h
    ·rw[h];exact⟨rfl,fun h=>by cases h⟩
    ·split at h
     ·rename_i hs
      rw[List.mem_singleton.1 h]
      exact⟨rfl,fun _=>⟨hs,(hent hs).symm⟩⟩
     ·cases h
  ·rcases hmem p hp with h|h
   ·exact hold _ (I.ask.own p h)
   ·rw[h,hA];simp
  ·rcases hmem p hp with h'|h'
   ·exact hold _ (I.ask.sto p h' h)
   ·rw[h']at h⊢
    rw[hent h,hA,if_pos h]
    simp
  ·rcases hmem p hp with h'|h'
   ·rw[(hrd p h').1.1]at h3⊢
    exact hold _ (I.ask.lod p h' h1 h2 h3)
   ·rw[h']at h1 h2
    rcases hst with h4|⟨_,_,h4⟩
    ·omega
    ·exact absurd h4 h2
 ·intro q hq
  rcases hmem q hq with h|h
  ·exact I.lat q h
  ·rw[h];exact hlat
theorem zbm(s:Cr):0<=chN s:=by
 unfold chN
 split<;>omega
theorem zlZ(M:Mc)(s:Cr)(o:Dg):∃K,(wayO M s o).1={s with scr:=K}/\(o.i.op≠3->trn o.i=false->(wayO M s o).2=(o.pc+4)%4294967296):=by
 unfold wayO
 split
 ·exact⟨s.scr,rfl,fun h=>by contradiction⟩
 ·split
  ·rename_i h
   exact⟨_,rfl,fun _ h'=>by rw[h]at h';cases h'⟩
  ·exact⟨s.scr,rfl,fun _ _=>rfl⟩
theorem zl0(M:Mc)(s:Cr)(o:Dg)(hg:o.gs=false):∃L k g K v,(gueL M s o).2={o with late:=L,car:=k,gs:=g}/\
  (gueL M s o).1={s with scr:=K,wd:=if g=true then upI s.wd o.to v else s.wd,th:=if g=true then upB s.th o.to true else s.th}/\0<=L/\L<=9/\(g=true->o.rd≠0):=by
 have h0:=zbm s
 unfold gueL
 simp only[]
 split
 ·rename_i h
  exact⟨chN s%10,decide (chN s/10%2=1),true,s.scr.tail,(valO M s o.pc (chN s/10/2)).1,rfl,rfl,by omega,by omega,fun _=>h.2⟩
 ·exact⟨chN s%10,decide (chN s/10%2=1),false,s.scr.tail,0,by rw[<-hg],rfl,by omega,by omega,fun h=>by cases h⟩
theorem zl1(M:Mc)(s:Cr)(o:Dg)(hg:o.gs=false)(hl:o.late=0):∃w L k g K v,(gueO M s o).2={o with next:=w,late:=L,car:=k,gs:=g}/\
  (gueO M s o).1={s with fro:=w,scr:=K,wd:=if g=true then upI s.wd o.to v else s.wd,th:=if g=true then upB s.th o.to true else s.th}/\0<=L/\L<=9/\(g=true->o.rd≠0)/\(o.i.op≠3->trn o.i=false->w=(o.pc+4)%4294967296):=by
 obtain⟨K,h1,h2⟩:=zlZ M s o
 obtain⟨w,hw⟩:∃w,w=(wayO M s o).2:=⟨_,rfl⟩
 rw[<-hw]at h2
 have e:gueO M s o=if ldn o.i.op=0 then({s with scr:=K,fro:=w},{o with next:=w})else gueL M {s with scr:=K,fro:=w} {o with next:=w}:=by
  unfold gueO
  simp only[]
  rw[h1,<-hw]
 rw[e]
 split
 ·exact⟨w,o.late,o.car,false,K,0,by rw[<-hg],rfl,by omega,by omega,(fun h=>by cases h),h2⟩
 ·obtain⟨L,k,g,K',v,g1,g2,g3,g4,g5⟩:=zl0 M {s with scr:=K,fro:=w} {o with next:=w} hg
  exact⟨w,L,k,g,K',v,g1,g2,g3,g4,g5,h2⟩
theorem zoA{M:Mc}(hM:MOk M){s:Cr}{m:Nat->Int}(I:Inv M s m):rdI M s=fet M s.n (fE s.f s.under) s.fro:=by
 have h:=zoz (l1:=s.under) (l2:=[]) (by simpa using I.ask) (by simpa using I.rise) (s:=s.tak) (fun q hq=>(I.low q hq).2) (fun q hq=>by cases hq) (zkJ hM I.ch) s.f s.fro.toNat
 unfold rdI fet seeV
 rw[h]
 rfl
theorem zes{l:List Sl}{q:Int}(h:∀p∈l,p.1≠q):donS (l++[(q,false)]) q=l++[(q,true)]:=by
 unfold donS
 rw[List.map_append]
 congr 1
 ·rw[List.map_congr_left (g:=id) (fun p hp=>by rw[if_neg (h p hp)];rfl),List.map_id]
 ·simp
theorem yH{M:Mc}(hM:MOk M){s:Cr}{m:Nat->Int}(I:Inv M s m)(ho:s.opn=true)(htak:0<=s.tak):
  Inv M (tak1 M s).1 m/\((tak1 M s).2=false->(tak1 M s).1=s/\(s.win<=s.slots.length\/s.free=[]))/\((tak1 M s).2=true->∃o,(tak1 M s).1.under=s.under++[o]/\mu o<=12/\(tak1 M s).1.tak=s.tak+1)/\
   (tak1 M s).1.coms=s.coms/\(tak1 M s).1.R=s.R/\(tak1 M s).1.pc=s.pc/\(tak1 M s).1.st=s.st/\(tak1 M s).1.ca=s.ca/\(tak1 M s).1.f=s.f/\(tak1 M s).1.n=s.n/\(tak1 M s).1.cyc=s.cyc/\(tak1 M s).1.win=s.win/\(tak1 M s).1.phys=s.phys/\(tak1 M s).1.wide=s.wide/\(tak1 M s).1.bck=s.bck/\(tak1 M s).1.tb=s.tb:=by
 have hrI:=zoA hM I
 have hfro:s.fro=pE s.pc s.under:=by
  rcases I.en with⟨_,h,_⟩|⟨h,_⟩
  ·exact h
  ·rw[ho]at h;cases h
 unfold tak1
 split
 ·rename_i h
  exact⟨I,fun _=>⟨rfl,.inl h⟩,(fun h=>by cases h),rfl,rfl,rfl,rfl,rfl,rfl,rfl,rfl,rfl,rfl,rfl,rfl,rfl⟩
 ·split
  ·rename_i h
   exact⟨I,fun _=>⟨rfl,.inr h.2⟩,(fun h=>by cases h),rfl,rfl,rfl,rfl,rfl,rfl,rfl,rfl,rfl,rfl,rfl,rfl,rfl⟩
  ·rename_i hfree
   simp only[]
   by_cases hc:(rdI M s).2≠0
   ·rw[if_pos hc]
    have hz:(rdI M s).1=zin:=by rw[hrI]at hc⊢;exact zbf hc
    have e0:gvs zin=0:=zaw.1
    have hnew:(newO M s).rd=0:=by unfold newO;rw[hz];exact e0
    have hnam:namO (askO {s with slots:=s.slots++[(s.tak,false)],tak:=s.tak+1} (newO M s)) (newO M s)=(askO {s with slots:=s.slots++[(s.tak,false)],tak:=s.tak+1} (newO M s),{newO M s with a:=s.regs (ra (newO M s).i),b:=s.regs (rb (newO M s).i)}):=by
     unfold namO
     rw[if_pos hnew]
     rfl
    rw[hnam]
    have hsl:donS (s.slots++[(s.tak,false)]) s.tak=s.slots++[(s.tak,true)]:=zes fun p hp=>by
     rw[I.slo]at hp
     obtain⟨q,hq,rfl⟩:=List.mem_map.1 hp
     have:=(I.low q hq).2
     show q.seq≠s.tak
     omega
    obtain⟨o,hoe⟩:∃o:Dg,o={newO M s with a:=s.regs (ra (newO M s).i),b:=s.regs (rb (newO M s).i),st:=2,c:=qe s.fro (rdI M s).2}:=⟨_,rfl⟩
    have hi:o.i=zin:=by rw[hoe];exact hz
    have hL:Loc M s.n s.wd s.th (pE s.pc s.under) (mE m s.under) (fE s.f s.under) o:=by
     have hf2:(fet M s.n (fE s.f s.under) (pE s.pc s.under))=rdI M s:=by rw[hrI,<-hfro]
     refine⟨?_,?_,?_,?_,?_,fun h=>?_,fun _=>?_,fun _ h=>?_,fun _ h=>?_,fun h h0 hr=>?_,fun h=>?_,?_,fun h=>?_⟩
     ·rw[hoe];exact hfro
     ·rw[hf2,hoe];rfl
     ·rw[hoe];rfl
     ·rw[hoe,I.reg]
     ·rw[hoe,I.reg]
     ·rw[hoe]at h;exact absurd hnew h
     ·rw[hf2,hoe,<-hfro];exact⟨rfl,rfl⟩
     ·rw[hf2]at h;exact absurd h hc
     ·rw[hf2]at h;exact absurd h hc
     ·rw[hoe]at hr;exact absurd hnew hr
     ·rw[hoe]at h;exact absurd rfl h
     ·rw[hoe];exact .inr (.inr rfl)
     ·rw[hoe]at h;exact absurd rfl h
    have hstp:stp o:=by rw[hoe];exact⟨rfl,by show(2:Int)≠0;decide⟩
    have hT:({(kt (askO {s with slots:=s.slots++[(s.tak,false)],tak:=s.tak+1} (newO M s)) {newO M s with a:=s.regs (ra (newO M s).i),b:=s.regs (rb (newO M s).i)} (rdI M s).2).1 with under:=(kt (askO {s with slots:=s.slots++[(s.tak,false)],tak:=s.tak+1} (newO M s)) {newO M s with a:=s.regs (ra (newO M s).i),b:=s.regs (rb (newO M s).i)} (rdI M s).2).1.under++[(kt (askO {s with slots:=s.slots++[(s.tak,false)],tak:=s.tak+1} (newO M s)) {newO M s with a:=s.regs (ra (newO M s).i),b:=s.regs (rb (newO M s).i)} (rdI M s).2).2]}:Cr)
      ={s with slots:=s.slots++[slot o],under:=s.under++[o],tak:=s.tak+1,asked:=s.asked++(ownA o::if sts o.i then[st0 o.seq]else[]),regs:=s.regs,free:=s.free,wd:=s.wd,th:=s.th,scr:=s.scr,fro:=s.fro,opn:=false}:=by
     unfold kt askO
     simp only[]
     have e1:donS (s.slots++[(s.tak,false)]) (newO M s).seq=s.slots++[slot o]:=by
      rw[hoe];exact hsl
     rw[e1,hoe]
     rfl
    refine⟨zhJ hM I ho hT (by rw[hoe];rfl) htak hL (by rw[hoe,if_pos hnew];rfl) (by unfold nm;rw[if_pos (by rw[hoe];exact hnew)]) (fun _ _=>⟨rfl,rfl⟩) rfl (.inr ⟨by rw[hoe],by rw[hi];exact zaw.2.2.2.2,by rw[hi];exact zaw.2.2.2.1⟩) (by rw[hoe];exact⟨Int.le_refl 0,by show(0:Int)<=9;omega⟩) (.inr ⟨rfl,hstp⟩),(fun h=>by cases h),fun _=>⟨_,rfl,?_,rfl⟩,rfl,rfl,rfl,rfl,rfl,rfl,rfl,rfl,rfl,rfl,rfl,rfl,rfl⟩
    have hmu:∀p:Dg,p.st=2->mu p<=12:=fun p hp=>by unfold mu;rw[if_pos hp];omega
    exact hmu _ rfl
   ·rw[if_neg hc]
    have hc:(rdI M s).2=0:=by simpa using hc
    obtain⟨o2,ho2⟩:∃o2:Dg,o2=(namO (askO {s with slots:=s.slots++[(s.tak,false)],tak:=s.tak+1} (newO M s)) (newO M s)).2:=⟨_,rfl⟩
    obtain⟨s2,hs2⟩:∃s2:Cr,s2=(namO (askO {s with slots:=s.slots++[(s.tak,false)],tak:=s.tak+1} (newO M s)) (newO M s)).1:=⟨_,rfl⟩
    rw[<-ho2,<-hs2]
    have f1:o2.gs=false/\o2.late=0/\o2.rd=gvs (rdI M s).1/\o2.i=(rdI M s).1/\o2.pc=s.fro/\o2.seq=s.tak/\o2.st=0/\o2.a=s.regs (ra o2.i)/\o2.b=s.regs (rb o2.i)/\(o2.rd≠0->o2.old=s.regs o2.rd):=by
     rw[ho2]
     unfold namO
     split
     ·exact⟨rfl,rfl,rfl,rfl,rfl,rfl,rfl,rfl,rfl,fun h=>by rename_i h';exact absurd h' h⟩
     ·exact⟨rfl,rfl,rfl,rfl,rfl,rfl,rfl,rfl,rfl,fun _=>rfl⟩
    obtain⟨k1,k2,k3,k4,k5,k6,k7,k8,k9,k10⟩:=f1
    have f2:s2={s with slots:=s.slots++[(s.tak,false)],tak:=s.tak+1,asked:=s.asked++(ownA o2::if sts o2.i then[st0 o2.seq]else[]),regs:=nm s.regs o2,free:=if o2.rd=0 then s.free else s.free.tail,th:=if o2.rd=0 then s.th else upB s.th o2.to false}/\(o2.rd≠0->o2.to=s.free.headD 0):=by
     rw[hs2,ho2]
     unfold namO nm
     by_cases h:(newO M s).rd=0
     ·simp only[h,if_true];exact⟨rfl,fun h'=>absurd rfl h'⟩
     ·simp only[h,if_false];exact⟨rfl,fun _=>rfl⟩
    obtain⟨f2,f3⟩:=f2
    have hfr:o2.rd≠0->s.free=o2.to::s.free.tail:=fun h=>by
     rw[f3 h]
     cases hx:s.free with
     |nil=>exact absurd ⟨by rw[<-k3];exact h,hx⟩ hfree
     |cons x l=>rfl
    obtain⟨w,L,k,g,K,v,g1,g2,g3,g4,g5,g6⟩:=zl1 M s2 o2 k1 k2
    rw[g1,g2]
    obtain⟨o,hoe⟩:∃o:Dg,o={o2 with next:=w,late:=L,car:=k,gs:=g}:=⟨_,rfl⟩
    rw[<-hoe]
    have hT:({({s2 with fro:=w,scr:=K,wd:=if g=true then upI s2.wd o2.to v else s2.wd,th:=if g=true then upB s2.th o2.to true else s2.th}:Cr)with under:=({s2 with fro:=w,scr:=K,wd:=if g=true then upI s2.wd o2.to v else s2.wd,th:=if g=true then upB s2.th o2.to true else s2.th}:Cr).under++[o]}:Cr)
      ={s with slots:=s.slots++[slot o],under:=s.under++[o],tak:=s.tak+1,asked:=s.asked++(ownA o::if sts o.i then[st0 o.seq]else[]),regs:=nm s.regs o,free:=if o.rd=0 then s.free else s.free.tail,wd:=if g=true then upI s.wd o.to v else s.wd,th:=if g=true then upB (if o.rd=0 then s.th else upB s.th o.to false) o.to true else(if o.rd=0 then s.th else upB s.th o.to false),scr:=K,fro:=w,opn:=s.opn}:=by
     have e1:slot o=(s.tak,false):=by rw[hoe];unfold slot;simp[k6,k7]
     rw[f2,e1,hoe]
     rfl
    have hst:o.st=0:=by rw[hoe];exact k7
    have hf2:(fet M s.n (fE s.f s.under) (pE s.pc s.under))=rdI M s:=by rw[hrI,<-hfro]
    have hth:o.rd≠0->(if g=true then upB (if o.rd=0 then s.th else upB s.th o.to false) o.to true else(if o.rd=0 then s.th else upB s.th o.to false)) o.to=o.gs:=fun h=>by
     have hgs:o.gs=g:=by rw[hoe]
     rw[hgs,if_neg h]
     cases g with
     |false=>simp[upB]
     |true=>simp[upB]
    have hL:Loc M s.n (if g=true then upI s.wd o.to v else s.wd) (if g=true then upB (if o.rd=0 then s.th else upB s.th o.to false) o.to true else(if o.rd=0 then s.th else upB s.th o.to false)) (pE s.pc s.under) (mE m s.under) (fE s.f s.under) o:=by
     refine⟨?_,?_,?_,?_,?_,fun h=>?_,fun h=>?_,fun h _=>absurd hst h,fun h=>?_,fun h=>?_,fun _ h=>hth h,.inl hst,fun _ h3 ht=>?_⟩
     ·rw[hoe,<-hfro];exact k5
     ·rw[hf2,hoe];exact k4
     ·rw[hoe];show o2.rd=gvs o2.i;rw[k3,k4]
     ·rw[hoe,I.reg];exact k8
     ·rw[hoe,I.reg];exact k9
     ·rw[hoe,I.reg]at*;exact k10 h
     ·rw[hf2]at h;exact absurd hc h
     ·omega
     ·omega
     ·rw[hoe]at h3 ht⊢;exact g6 h3 ht
    refine⟨zhJ hM I ho hT (by rw[hoe];exact k6) htak hL ?_ rfl (fun x hx=>?_) rfl (.inl hst) (by rw[hoe];exact⟨g3,g4⟩) (.inl ⟨ho,?_,fun h=>by have:=h.1;omega⟩),(fun h=>by cases h),fun _=>⟨o,by rw[f2],?_,by rw[f2]⟩,by rw[f2],by rw[f2],by rw[f2],by rw[f2],by rw[f2],by rw[f2],by rw[f2],by rw[f2],by rw[f2],by rw[f2],by rw[f2],by rw[f2],by rw[f2]⟩
    ·by_cases h:o.rd=0
     ·rw[if_pos h,if_pos h];rfl
     ·rw[if_neg h,if_neg h]
      have:=hfr (by rw[hoe]at h;exact h)
      rw[hoe]
      exact this
    ·refine⟨?_,?_⟩
     ·split
      ·rename_i hg
       have:o.rd≠0:=by rw[hoe];exact g5 hg
       exact if_neg (hx this)
      ·rfl
     ·have base:(if o.rd=0 then s.th else upB s.th o.to false) x=s.th x:=by
       split
       ·rfl
       ·rename_i h;exact if_neg (hx h)
      split
      ·rename_i hg
       have:o.rd≠0:=by rw[hoe];exact g5 hg
       rw[<-base]
       exact if_neg (hx this)
      ·exact base
    ·unfold nx;rw[if_neg (by omega),hoe]
    ·unfold mu;rw[if_neg (by omega),if_neg (by omega)];omega
end Go.Proofs.YtpiohehijkpghabGreatDoor.Co
