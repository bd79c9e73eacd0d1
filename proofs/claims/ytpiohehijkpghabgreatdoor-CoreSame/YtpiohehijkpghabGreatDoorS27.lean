/- One that is done now: the core is as it should be. Plain mathematics. -/
import Derived.Test.YtpiohehijkpghabGreatDoorS26
set_option linter.unusedSimpArgs false
set_option linter.unusedVariables false
namespace Go.Proofs.YtpiohehijkpghabGreatDoor.Co
open Go.RowKit
open Hy
open Wi Od Re.Hy
open Gu.Hy (Tb)
theorem yE{l:List Ac}{s:Ac}:∀{k:Nat},lst l s k=none->∀j a,j<k->l[j]?=some a->(ovr s.seq a&&Od.mt s a)=false
 |0,_,j,a,hj,_=>absurd hj (by omega)
 |k+1,h,j,a,hj,ha=>by
  unfold lst at h
  split at h
  ·rename_i hk
   by_cases e:j=k
   ·subst e;rw[hk]at ha;cases ha
   ·exact yE h j a (by omega) ha
  ·rename_i b hb
   split at h
   ·cases h
   ·rename_i hc
    rw[h]at hc
    by_cases e:j=k
    ·subst e
     rw[hb]at ha
     cases ha
     cases hx:ovr s.seq a&&Od.mt s a with
     |false=>rfl
     |true=>rw[hx]at hc;exact absurd rfl hc
    ·exact yE h j a (by omega) ha
theorem kv{l:List Ac}{s:Ac}:∀{k:Nat} {e:Int},lst l s k=some e->(∃a∈l,a.seq=e/\(ovr s.seq a&&Od.mt s a)=true)/\∀j a,j<k->l[j]?=some a->(ovr s.seq a&&Od.mt s a)=true->e<=a.seq
 |0,e,h=>by cases h
 |k+1,e,h=>by
  unfold lst at h
  split at h
  ·rename_i hk
   obtain⟨h1,h2⟩:=kv h
   refine⟨h1,fun j a hj ha hc=>?_⟩
   by_cases e':j=k
   ·subst e';rw[hk]at ha;cases ha
   ·exact h2 j a (by omega) ha hc
  ·rename_i b hb
   split at h
   ·rename_i hc
    cases h
    rw[Bool.and_eq_true]at hc
    refine⟨⟨b,List.mem_of_getElem? hb,rfl,hc.1⟩,fun j a hj ha hx=>?_⟩
    by_cases e':j=k
    ·subst e';rw[hb]at ha;cases ha;exact Int.le_refl _
    ·cases hl:lst l s k with
     |none=>have:=yE hl j a (by omega) ha;rw[this]at hx;cases hx
     |some y=>
      have:=(kv hl).2 j a (by omega) ha hx
      have h3:=hc.2
      rw[hl]at h3
      simp[bef]at h3
      omega
   ·rename_i hc
    obtain⟨h1,h2⟩:=kv h
    refine⟨h1,fun j a hj ha hx=>?_⟩
    by_cases e':j=k
    ·subst e'
     rw[hb]at ha
     cases ha
     rw[h,hx]at hc
     simp[bef]at hc
     exact hc
    ·exact h2 j a (by omega) ha hx
theorem vq{l1 l2:List Dg}{o:Dg}(h:Rise (l1++o::l2))(g:Dg->Dg):putO (l1++o::l2) o.seq g=l1++g o::l2:=by
 obtain⟨h1,h2,h3⟩:=zG.1 h
 obtain⟨h4,_⟩:=zV.1 h2
 unfold putO
 rw[List.map_append,List.map_cons]
 have e1:l1.map (fun p=>if p.seq=o.seq then g p else p)=l1:=by
  rw[List.map_congr_left (g:=id) (fun p hp=>by have:=h3 p hp o (List.mem_cons_self ..);rw[if_neg (by omega)];rfl),List.map_id]
 have e2:l2.map (fun p=>if p.seq=o.seq then g p else p)=l2:=by
  rw[List.map_congr_left (g:=id) (fun p hp=>by have:=h4 p hp;rw[if_neg (by omega)];rfl),List.map_id]
 rw[e1,e2,if_pos rfl]
theorem zdu{l1 l2:List Dg}{o o':Dg}(h:Rise (l1++o::l2))(hs:slot o'=(o.seq,true)):donS ((l1++o::l2).map slot) o.seq=(l1++o'::l2).map slot:=by
 obtain⟨h1,h2,h3⟩:=zG.1 h
 obtain⟨h4,_⟩:=zV.1 h2
 unfold donS
 rw[List.map_map,List.map_append,List.map_cons,List.map_append,List.map_cons,hs]
 congr 1
 ·refine List.map_congr_left fun p hp=>?_
  have:=h3 p hp o (List.mem_cons_self ..)
  show(if p.seq=o.seq then _ else _)=_
  rw[if_neg (by omega)]
 ·congr 1
  ·show(if o.seq=o.seq then(o.seq,true)else _)=_
   rw[if_pos rfl]
  ·refine List.map_congr_left fun p hp=>?_
   have:=h4 p hp
   show(if p.seq=o.seq then _ else _)=_
   rw[if_neg (by omega)]
theorem kC{l1 l2:List Dg}{o o':Dg}(h:Rise (l1++o::l2))(e:o'.seq=o.seq):Rise (l1++o'::l2):=by
 unfold Rise at*
 rw[List.map_append,List.map_cons]at*
 rw[e]
 exact h
theorem zhA{l:List Dg}{o o':Dg}{m:Nat->Int}(h1:o'.rd=o.rd)(h2:o'.to=o.to):mE m (o'::l)=mE m (o::l):=by
 show mE (nm m o') l=mE (nm m o) l
 unfold nm
 rw[h1,h2]
theorem zdv{l:List Dg}{o o':Dg}(h1:o'.rd=o.rd)(h2:o'.to=o.to):tos (o'::l)=tos (o::l):=by
 rw[zT,zT,h1,h2]
theorem zbj{l1 l2:List Dg}{o o':Dg}{m:Nat->Int}(h:Olds m (l1++o::l2))(h1:o'.rd=o.rd)(h2:o'.to=o.to)(h3:o'.old=o.old):Olds m (l1++o'::l2):=by
 rw[xx]at*
 refine⟨h.1,fun h0=>by rw[h3,h1];exact h.2.1 (by rw[<-h1];exact h0),?_⟩
 have:=h.2.2
 have e:nm (mE m l1) o'=nm (mE m l1) o:=by unfold nm;rw[h1,h2]
 rw[e]
 exact this
def inC(c:Cm)(x:Nat):Prop:=c.pl.toNat<=x/\x<c.pl.toNat+c.many.toNat
def zow(n:Nat)(wd:Int->Int)(c:Cm)(o:Dg):Prop:=
 (fits n o.pc 4=true->∀k,k<4->¬inC c (o.pc.toNat+k))/\(o.st=2->ldn o.i.op≠0->fits n (place o.i (wd o.a)) (ldn o.i.op)=true->∀k:Nat,(k:Int)<ldn o.i.op->¬inC c ((place o.i (wd o.a)).toNat+k))
theorem zhB{q x many y:Int}{c:Cm}{seq:Int}(hm:c.many=0\/((c.many=1\/c.many=2\/c.many=4)/\0<=c.pl))(hq:q<seq)(hmany:0<=many/\many<=4)(h:(ovr (stA q c).seq (ldA seq x many)&&Od.mt (stA q c) (ldA seq x many))=false)(k:Nat)(hk:(k:Int)<many)(hx:0<=x):¬inC c (x.toNat+k):=by
 intro⟨h1,h2⟩
 have e1:Od.hs (stA q c) (x+k)=true:=(zlU (by omega)).2 (by rcases hm with hm|hm<;>omega)
 have e2:Od.hs (ldA seq x many) (x+k)=true:=by
  unfold Od.hs Od.wd
  apply decide_eq_true
  show x<=x+k/\x+k<x+(if many<0 then 0 else if 4<many then 4 else many)
  rw[if_neg (by omega),if_neg (by omega)]
  omega
 have e3:=zn4 e1 e2
 have e4:ovr (stA q c).seq (ldA seq x many)=true:=by
  show(true&&true&&true&&decide (q<seq))=true
  simp[hq]
 rw[e3,e4]at h
 cases h
theorem jA{n:Nat}{x many:Int}(h:fits n x many=true):0<=x/\x%many=0/\x+many<=n:=by simpa[fits]using h
theorem zhC(i:In)(a:Int):0<=place i a/\place i a<4294967296:=by unfold place;omega
structure Fin1(M:Mc)(s:Cr)(m:Nat->Int)(l1 l2:List Dg)(o:Dg)(c:Cm)(l2' l3:List Dg)(t:Cr):Prop where
 split:l2=l2'++l3
 is:∃A B F P,t={s with under:=l1++{o with st:=2,c:=c}::l2',slots:=(l1++{o with st:=2,c:=c}::l2').map slot,regs:=mE m (l1++{o with st:=2,c:=c}::l2'),free:=tos l3++s.free,asked:=A,bck:=B,fro:=F,opn:=P}/\As s.n s.wd (l1++{o with st:=2,c:=c}::l2') A/\
  ((l3=[]/\F=s.fro/\P=s.opn)\/(l3≠[]/\P=true/\F=pE s.pc (l1++o::l2')))
 clear:∀q∈l2',zow s.n s.wd c q
theorem zox{n:Nat}{wd:Int->Int}{l1 l2:List Dg}{o:Dg}{c:Cm}{k:List Ac}(A:As n wd (l1++o::l2) k)(hs:sts o.i=false)(hl:ldn o.i.op≠0->fits n (place o.i (wd o.a)) (ldn o.i.op)=true->ldA o.seq (place o.i (wd o.a)) (ldn o.i.op)∈k):As n wd (l1++{o with st:=2,c:=c}::l2) k:=by
 have mem:∀p,p∈l1++{o with st:=2,c:=c}::l2->p={o with st:=2,c:=c}\/(p∈l1++o::l2):=fun p hp=>by
  rcases List.mem_append.1 hp with h|h
  ·exact .inr (List.mem_append_left _ h)
  ·rcases List.mem_cons.1 h with h|h
   ·exact .inl h
   ·exact .inr (List.mem_append_right _ (List.mem_cons_of_mem _ h))
 have hom:o∈l1++o::l2:=by simp
 refine⟨fun q hq=>?_,fun p hp=>?_,fun p hp h=>?_,fun p hp h1 h2 h3=>?_⟩
 ·obtain⟨p,hp,e,he⟩:=A.of q hq
  by_cases hpo:p∈l1\/p∈l2
  ·refine⟨p,?_,e,he⟩
   rcases hpo with h|h
   ·exact List.mem_append_left _ h
   ·exact List.mem_append_right _ (List.mem_cons_of_mem _ h)
  ·have:p=o:=by
    rcases List.mem_append.1 hp with h|h
    ·exact absurd (.inl h) hpo
    ·rcases List.mem_cons.1 h with h|h
     ·exact h
     ·exact absurd (.inr h) hpo
   subst this
   refine⟨_,List.mem_append_right _ (List.mem_cons_self ..),e,fun h=>?_⟩
   have:=(he h).1
   rw[hs]at this
   cases this
 ·rcases mem p hp with rfl|h
  ·exact A.own o hom
  ·exact A.own p h
 ·rcases mem p hp with rfl|h'
  ·have h:sts o.i=true:=h
   rw[hs]at h;cases h
  ·exact A.sto p h' h
 ·rcases mem p hp with rfl|h'
  ·exact hl h2 h3
  ·exact A.lod p h' h1 h2 h3
theorem zoy{n:Nat}{wd:Int->Int}{l1 l2:List Dg}{o:Dg}{c:Cm}{k:List Ac}(A:As n wd (l1++o::l2) k)(hr:Rise (l1++o::l2))(hs:sts o.i=true):As n wd (l1++{o with st:=2,c:=c}::l2) (setA k o.seq (stA o.seq c)):=by
 have mem:∀p,p∈l1++{o with st:=2,c:=c}::l2->p={o with st:=2,c:=c}\/(p∈l1++o::l2/\p.seq≠o.seq):=fun p hp=>by
  obtain⟨h1,h2,h3⟩:=zG.1 hr
  obtain⟨h4,_⟩:=zV.1 h2
  rcases List.mem_append.1 hp with h|h
  ·exact .inr ⟨List.mem_append_left _ h,by have:=h3 p h o (List.mem_cons_self ..);omega⟩
  ·rcases List.mem_cons.1 h with h|h
   ·exact .inl h
   ·exact .inr ⟨List.mem_append_right _ (List.mem_cons_of_mem _ h),by have:=h4 p h;omega⟩
 have hom:o∈l1++o::l2:=by simp
 have keep:∀a∈k,¬(a.st=true/\a.seq=o.seq)->a∈setA k o.seq (stA o.seq c):=fun a ha hn=>by
  unfold setA
  exact List.mem_map.2 ⟨a,ha,if_neg hn⟩
 refine⟨fun q hq=>?_,fun p hp=>?_,fun p hp h=>?_,fun p hp h1 h2 h3=>?_⟩
 ·unfold setA at hq
  obtain⟨a,ha,rfl⟩:=List.mem_map.1 hq
  by_cases hc:a.st=true/\a.seq=o.seq
  ·rw[if_pos hc]
   refine⟨_,List.mem_append_right _ (List.mem_cons_self ..),rfl,fun _=>⟨hs,?_⟩⟩
   unfold entA
   exact(if_pos rfl).symm
  ·rw[if_neg hc]
   obtain⟨p,hp,e,he⟩:=A.of a ha
   by_cases hpo:p∈l1\/p∈l2
   ·refine⟨p,?_,e,he⟩
    rcases hpo with h|h
    ·exact List.mem_append_left _ h
    ·exact List.mem_append_right _ (List.mem_cons_of_mem _ h)
   ·have:p=o:=by
     rcases List.mem_append.1 hp with h|h
     ·exact absurd (.inl h) hpo
     ·rcases List.mem_cons.1 h with h|h
      ·exact h
      ·exact absurd (.inr h) hpo
    subst this
    exact⟨_,List.mem_append_right _ (List.mem_cons_self ..),e,fun h=>absurd ⟨h,e⟩ hc⟩
 ·rcases mem p hp with rfl|⟨h,hne⟩
  ·exact keep _ (A.own o hom) (fun h=>by cases h.1)
  ·exact keep _ (A.own p h) (fun h=>by cases h.1)
 ·rcases mem p hp with rfl|⟨h',hne⟩
  ·have h0:=A.sto o hom hs
   unfold setA
   refine List.mem_map.2 ⟨_,h0,?_⟩
   rw[if_pos (by unfold entA;split<;>exact⟨rfl,rfl⟩)]
   unfold entA
   exact(if_pos rfl).symm
  ·refine keep _ (A.sto p h' h) (fun hh=>hne ?_)
   have:=hh.2
   unfold entA at this
   split at this<;>exact this
 ·rcases mem p hp with rfl|⟨h',hne⟩
  ·have h2:ldn o.i.op≠0:=h2
   exact absurd (zlW hs) h2
  ·exact keep _ (A.lod p h' h1 h2 h3) (fun h=>by cases h.1)
theorem zkK{n:Nat}{wd:Int->Int}{l1 l2:List Dg}{k:List Ac}(A:As n wd (l1++l2) k)(q:Int)(h1:∀o∈l1,o.seq<q)(h2:∀o∈l2,q<=o.seq):As n wd l1 (k.filter (fun a=>!decide (q<=a.seq))):=by
 have keep:∀a∈k,a.seq<q->a∈k.filter (fun a=>!decide (q<=a.seq)):=fun a ha hn=>List.mem_filter.2 ⟨ha,by simp;omega⟩
 refine⟨fun a ha=>?_,fun p hp=>keep _ (A.own p (List.mem_append_left _ hp)) (h1 p hp),fun p hp h=>keep _ (A.sto p (List.mem_append_left _ hp) h) ?_,fun p hp g1 g2 g3=>keep _ (A.lod p (List.mem_append_left _ hp) g1 g2 g3) (h1 p hp)⟩
 ·obtain⟨ha,hq⟩:=List.mem_filter.1 ha
  obtain⟨p,hp,e,he⟩:=A.of a ha
  simp at hq
  rcases List.mem_append.1 hp with h|h
  ·exact⟨p,h,e,he⟩
  ·have:=h2 p h;omega
 ·unfold entA
  split<;>exact h1 p hp
theorem zhD{l1 l2:List Dg}{o:Dg}(h:Rise (l1++o::l2)):pcOf (l1++o::l2) o.seq=o.pc:=by
 unfold pcOf
 obtain⟨h1,h2,h3⟩:=zG.1 h
 rw[List.find?_append,List.find?_eq_none.2 (fun p hp=>by have:=h3 p hp o (List.mem_cons_self ..);simp;omega)]
 simp
theorem zlX{M:Mc}(hM:MOk M){s:Cr}{m:Nat->Int}(I:Inv M s m){l1 l2:List Dg}{o:Dg}(hu:s.under=l1++o::l2)(h2:o.st≠2){c:Cm}(hc:CmIs s.n o.i o.pc c)
  (hl:ldn o.i.op≠0->fits s.n (place o.i (s.wd o.a)) (ldn o.i.op)=true->ldA o.seq (place o.i (s.wd o.a)) (ldn o.i.op)∈s.asked):
  ∃l2' l3,Fin1 M s m l1 l2 o c l2' l3 (fin1 s o c):=by
 have hr:Rise (l1++o::l2):=hu▸I.rise
 have hA:As s.n s.wd (l1++o::l2) s.asked:=hu▸I.ask
 have hch:Ch M s.n s.wd s.th s.pc m s.f (l1++o::l2):=hu▸I.ch
 have hru:putO s.under o.seq (fun o=>{o with st:=2,c:=c})=l1++{o with st:=2,c:=c}::l2:=by rw[hu];exact vq hr _
 have hsl:donS s.slots o.seq=(l1++{o with st:=2,c:=c}::l2).map slot:=by
  rw[I.slo,hu]
  exact zdu hr (by show(o.seq,decide ((2:Int)=2))=_;rfl)
 have hmE:mE m (l1++{o with st:=2,c:=c}::l2)=s.regs:=by
  rw[<-I.reg,hu,ku,ku]
  exact zhA rfl rfl
 by_cases hs:sts o.i=true
 ·obtain⟨A,hAe⟩:∃A,A=setA s.asked o.seq (stA o.seq c):=⟨_,rfl⟩
  have hA1:=zoy (c:=c) hA hr hs
  rw[<-hAe]at hA1
  have hcm:c.many=0\/((c.many=1\/c.many=2\/c.many=4)/\0<=c.pl):=by
   rcases hc.many with h|⟨_,h,h',_⟩
   ·exact .inl h
   ·exact .inr ⟨h,h'⟩
  have cl:∀q∈l2,(∀a∈A,a.seq=q.seq->(ovr (stA o.seq c).seq a&&Od.mt (stA o.seq c) a)=false)->zow s.n s.wd c q:=by
   intro q hq hno
   have hlt:o.seq<q.seq:=(zV.1 (zG.1 hr).2.1).1 q hq
   have hqm:q∈l1++{o with st:=2,c:=c}::l2:=List.mem_append_right _ (List.mem_cons_of_mem _ hq)
   refine⟨fun hf k hk=>?_,fun g2 g0 hf k hk=>?_⟩
   ·exact zhB (seq:=q.seq) (many:=4) (y:=0) hcm hlt (by omega) (hno _ (hA1.own q hqm) rfl) k (by omega) (jA hf).1
   ·exact zhB (seq:=q.seq) (y:=0) hcm hlt (yu _) (hno _ (hA1.lod q hqm g2 g0 hf) rfl) k hk (zhC _ _).1
  have hfin:fin1 s o c=settle {s with under:=l1++{o with st:=2,c:=c}::l2,slots:=(l1++{o with st:=2,c:=c}::l2).map slot} o.seq c:=by
   unfold fin1
   rw[hru,hsl]
   simp only[hs,if_true]
  cases hls:lst A (stA o.seq c) A.length with
  |none=>
   refine⟨l2,[],(List.append_nil _).symm,⟨A,s.bck,s.fro,s.opn,?_,hA1,.inl ⟨rfl,rfl,rfl⟩⟩,fun q hq=>cl q hq fun a ha _=>?_⟩
   ·rw[hfin]
    unfold settle
    simp only[<-hAe,hls]
    rw[hmE]
    rfl
   ·obtain⟨j,hj⟩:=List.getElem?_of_mem ha
    exact yE hls j a (List.getElem?_eq_some_iff.1 hj).1 hj
  |some e=>
   obtain⟨⟨a,ha,hae,hao⟩,hmin⟩:=kv hls
   have hlt:o.seq<e:=by
    rw[Bool.and_eq_true]at hao
    have h3:=hao.1
    unfold ovr at h3
    rw[Bool.and_eq_true,decide_eq_true_iff]at h3
    have h4:o.seq<a.seq:=h3.2
    omega
   have hr':Rise (l1++{o with st:=2,c:=c}::l2):=kC (o:=o) hr rfl
   obtain⟨p,hp,hpe,_⟩:=hA1.of a ha
   obtain⟨L1,L2,hL,g1,g2⟩:=xy e (zV.1 (zG.1 hr).2.1).2
   have hpL:p∈L2:=by
    rcases List.mem_append.1 hp with h|h
    ·have:=(zG.1 hr).2.2 p h o (List.mem_cons_self ..);omega
    ·rcases List.mem_cons.1 h with h|h
     ·have:p.seq=o.seq:=by rw[h]
      omega
     ·rw[hL]at h
      rcases List.mem_append.1 h with h|h
      ·have:=g1 p h;omega
      ·exact h
   have hhead:∃L3,L2=p::L3:=by
    cases L2 with
    |nil=>cases hpL
    |cons q L3=>
     have:=g2 q (List.mem_cons_self ..)
     rcases List.mem_cons.1 hpL with h|h
     ·exact⟨L3,by rw[h]⟩
     ·have hq:=(zV.1 (zG.1 (hL▸(zV.1 (zG.1 hr).2.1).2)).2.1).1 p h
      omega
   obtain⟨L3,rfl⟩:=hhead
   subst hL
   have hbk:Bk {s with under:=l1++{o with st:=2,c:=c}::(L1++p::L3),slots:=(l1++{o with st:=2,c:=c}::(L1++p::L3)).map slot,asked:=A} m:=
    ⟨zbj (vp hch) rfl rfl rfl,hmE,hr',rfl⟩
   have hpc:pcOf (l1++{o with st:=2,c:=c}::(L1++p::L3)) e=pE s.pc (l1++o::L1):=by
    have hr2:Rise ((l1++{o with st:=2,c:=c}::L1)++p::L3):=by simpa using hr'
    have:=zhD hr2
    rw[hpe.symm.trans hae,List.append_assoc,List.cons_append]at this
    rw[this]
    have hc2:Ch M s.n s.wd s.th s.pc m s.f ((l1++o::L1)++p::L3):=by simpa using hch
    exact(zad hc2).hpc
   have hb:=zbi hbk (l1:=l1++{o with st:=2,c:=c}::L1) (l2:=p::L3) (by simp) e (pcOf (l1++{o with st:=2,c:=c}::(L1++p::L3)) e) (fun q hq=>by
    rcases List.mem_append.1 hq with h|h
    ·have:=(zG.1 hr).2.2 q h o (List.mem_cons_self ..);omega
    ·rcases List.mem_cons.1 h with h|h
     ·have:q.seq=o.seq:=by rw[h]
      omega
     ·exact g1 q h) g2
   refine⟨L1,p::L3,rfl,⟨A.filter (fun a=>!decide (e<=a.seq)),s.bck+1,pE s.pc (l1++o::L1),true,?_,?_,.inr ⟨by simp,rfl,rfl⟩⟩,fun q hq=>cl q (List.mem_append_left _ hq) fun a' ha' he'=>?_⟩
   ·rw[hfin]
    unfold settle
    simp only[<-hAe,hls]
    rw[hb,hpc]
    simp
   ·refine zkK (l2:=p::L3) (by simpa using hA1) e (fun q hq=>?_) g2
    rcases List.mem_append.1 hq with h|h
    ·have:=(zG.1 hr).2.2 q h o (List.mem_cons_self ..);omega
    ·rcases List.mem_cons.1 h with h|h
     ·have:q.seq=o.seq:=by rw[h]
      omega
     ·exact g1 q h
   ·cases hx:(ovr (stA o.seq c).seq a'&&Od.mt (stA o.seq c) a')with
    |false=>rfl
    |true=>
     obtain⟨j,hj⟩:=List.getElem?_of_mem ha'
     have:=hmin j a' (List.getElem?_eq_some_iff.1 hj).1 hj hx
     have:=g1 q hq
     omega
 ·have hs:sts o.i=false:=by simpa using hs
  have hm0:c.many=0:=by
   rcases hc.many with h|⟨h,_⟩
   ·exact h
   ·rw[hs]at h;cases h
  refine⟨l2,[],(List.append_nil _).symm,⟨s.asked,s.bck,s.fro,s.opn,?_,zox hA hs hl,.inl ⟨rfl,rfl,rfl⟩⟩,fun q hq=>⟨fun _ k _ hin=>?_,fun _ _ _ k _ hin=>?_⟩⟩
  ·unfold fin1
   rw[hru,hsl,hmE]
   simp only[hs]
   rfl
  ·have:=hin;unfold inC at this;rw[hm0]at this;simp at this;omega
  ·have:=hin;unfold inC at this;rw[hm0]at this;simp at this;omega
theorem zjJ{n:Nat}{wd wd':Int->Int}{l:List Dg}{k:List Ac}(A:As n wd l k)(h:∀o∈l,o.st=2->ldn o.i.op≠0->wd' o.a=wd o.a):As n wd' l k:=
 ⟨A.of,A.own,A.sto,fun o ho h1 h2 h3=>by
  rw[h o ho h1 h2]at h3⊢
  exact A.lod o ho h1 h2 h3⟩
def wdF(wd:Int->Int)(o:Dg)(c:Cm):Int->Int:=if c.rd=0 then wd else upI wd o.to c.val
def thF(th:Int->Bool)(o:Dg)(c:Cm):Int->Bool:=if c.rd=0 then th else upB th o.to true
theorem zdw{wd:Int->Int}{o:Dg}{c:Cm}{x:Int}(h:x≠o.to):wdF wd o c x=wd x:=by
 unfold wdF upI;split
 ·rfl
 ·exact if_neg h
theorem zdx{th:Int->Bool}{o:Dg}{c:Cm}{x:Int}(h:x≠o.to):thF th o c x=th x:=by
 unfold thF upB;split
 ·rfl
 ·exact if_neg h
theorem jY(s:Cr)(o:Dg)(c:Cm):jc s o c={s with wd:=wdF s.wd o c,th:=thF s.th o c}:=by
 unfold jc wdF thF
 split<;>rfl
theorem yg{M:Mc}{s:Cr}{m:Nat->Int}(I:Inv M s m){l1 l2:List Dg}{o:Dg}(hu:s.under=l1++o::l2):Ch M s.n s.wd s.th s.pc m s.f (l1++o::l2):=hu▸I.ch
theorem zdy{M:Mc}{s:Cr}{m:Nat->Int}(I:Inv M s m){l1 l2:List Dg}{o:Dg}(hu:s.under=l1++o::l2):Dis s.phys m (tos (l1++o::l2)++s.free):=hu▸I.dis
theorem kD{M:Mc}(hM:MOk M){s:Cr}{m:Nat->Int}(I:Inv M s m){l1 l2:List Dg}{o:Dg}(hu:s.under=l1++o::l2)(hrd:o.rd≠0):o.to∉tos l1/\o.to∉tos l2/\o.to∉s.free/\∀r,r<32->m r≠o.to:=by
 have d:=zdy I hu
 have hn:=d.nod
 rw[qm,zT,if_neg hrd,List.append_assoc,List.nodup_append]at hn
 obtain⟨_,h2,h3⟩:=hn
 rw[List.cons_append,List.nodup_cons]at h2
 refine⟨fun h=>h3 _ h _ (by simp) rfl,fun h=>h2.1 (List.mem_append_left _ h),fun h=>h2.1 (List.mem_append_right _ h),fun r hr e=>d.apart r hr ?_⟩
 rw[e,qm,zT,if_neg hrd]
 simp
theorem zjK{M:Mc}(hM:MOk M){s:Cr}{m:Nat->Int}(I:Inv M s m){l1 l2:List Dg}{o:Dg}(hu:s.under=l1++o::l2){p1 p2:List Dg}{q:Dg}(hp:l1++o::l2=p1++q::p2)(hsub:∀x,x∈tos p1->x∈tos l1)(hrd:o.rd≠0):q.a≠o.to/\q.b≠o.to:=by
 have hch:=yg I hu
 rw[hp]at hch
 obtain⟨ha,hb⟩:=zeo hM hch
 obtain⟨n1,_,_,n4⟩:=kD hM I hu hrd
 refine⟨?_,?_⟩
 ·rcases ha with⟨r,hr,e⟩|e
  ·rw[e];exact n4 r hr
  ·exact fun h=>n1 (hsub _ (h▸e))
 ·rcases hb with⟨r,hr,e⟩|e
  ·rw[e];exact n4 r hr
  ·exact fun h=>n1 (hsub _ (h▸e))
theorem inv_of{M:Mc}(hM:MOk M){s:Cr}{m:Nat->Int}(I:Inv M s m){l1 l2:List Dg}{o:Dg}(hu:s.under=l1++o::l2){c:Cm}(h2:o.st≠2)(hth:s.th o.a=true/\s.th o.b=true)(hc:c=comC M s.n (fE s.f l1) o.i o.pc (s.wd o.a) (s.wd o.b)){l2' l3:List Dg}(hl:l2=l2'++l3){A:List Ac}{B F:Int}{P:Bool}{t:Cr}
  (ht:t={s with under:=l1++{o with st:=2,c:=c}::l2',slots:=(l1++{o with st:=2,c:=c}::l2').map slot,regs:=mE m (l1++{o with st:=2,c:=c}::l2'),free:=tos l3++s.free,asked:=A,bck:=B,fro:=F,opn:=P,wd:=wdF s.wd o c,th:=thF s.th o c})
  (hA:As s.n s.wd (l1++{o with st:=2,c:=c}::l2') A)
  (hch2:Ch M s.n (wdF s.wd o c) (thF s.th o c) c.next (nm (mE m l1) o) (stoC (fE s.f l1) c) l2')
  (hst:c.st≠0->l2'=[])
  (hw2:∀q∈l2',q.st=2->ldn q.i.op≠0->wdF s.wd o c q.a=s.wd q.a)
  (hen:(P=true/\F=pE s.pc (l1++{o with st:=2,c:=c}::l2')/\∀q∈l1++{o with st:=2,c:=c}::l2',¬stp q)\/(P=false/\∃l q,l1++{o with st:=2,c:=c}::l2'=l++[q]/\stp q)):Inv M t m:=by
 subst ht
 have hch:=yg I hu
 have hloc:=zad hch
 have hz:(fet M s.n (fE s.f l1) (pE s.pc l1)).2=0:=Classical.byContradiction fun hz=>h2 (hloc.bad hz).1
 obtain⟨x,hx⟩:=vn hz
 rw[<-hloc.ins]at hx
 have hcm:CmIs s.n o.i o.pc c:=by rw[hc];exact yD hM hx _ _ _ _ _
 have hrd:c.rd≠0->o.rd=c.rd:=fun h=>by
  have h0:c.st=0:=Classical.byContradiction fun h'=>h (hcm.stops h').2.1
  rw[hloc.rd,<-hcm.gives h0]
 have hne:∀{p1 p2:List Dg} {q:Dg},l1++o::l2=p1++q::p2->(∀x,x∈tos p1->x∈tos l1)->wdF s.wd o c q.a=s.wd q.a/\wdF s.wd o c q.b=s.wd q.b/\thF s.th o c q.a=s.th q.a/\thF s.th o c q.b=s.th q.b:=by
  intro p1 p2 q hp hsub
  by_cases h0:c.rd=0
  ·unfold wdF thF;simp[h0]
  ·obtain⟨e1,e2⟩:=zjK hM I hu hp hsub (by rw[hrd h0];exact h0)
   exact⟨zdw e1,zdw e2,zdx e1,zdx e2⟩
 have hto:∀q∈l1++l2,q.rd≠0->wdF s.wd o c q.to=s.wd q.to/\thF s.th o c q.to=s.th q.to:=by
  intro q hq hqr
  by_cases h0:c.rd=0
  ·unfold wdF thF;simp[h0]
  ·obtain⟨n1,n2,_,_⟩:=kD hM I hu (by rw[hrd h0];exact h0)
   have:q.to≠o.to:=fun e=>by
    rcases List.mem_append.1 hq with h|h
    ·exact n1 (e▸vm h hqr)
    ·exact n2 (e▸vm h hqr)
   exact⟨zdw this,zdx this⟩
 have hin1:∀{q:Dg},q∈l1->wdF s.wd o c q.a=s.wd q.a/\wdF s.wd o c q.b=s.wd q.b/\thF s.th o c q.a=s.th q.a/\thF s.th o c q.b=s.th q.b:=fun{q} hq=>by
  obtain⟨p1,p2,rfl⟩:=List.append_of_mem hq
  exact hne (p1:=p1) (p2:=p2++o::l2) (by simp) (fun x hx=>by rw[qm];exact List.mem_append_left _ hx)
 have hino:=hne (p1:=l1) (p2:=l2) (q:=o) rfl (fun x hx=>hx)
 have hno1:∀q∈l1,¬stp q:=(jR.1 hch).2.1 (by simp)
 have hbase:∀r,r<32->thF s.th o c (m r)=true/\wdF s.wd o c (m r)=s.R r:=fun r hr=>by
  have:=I.base r hr
  by_cases h0:c.rd=0
  ·unfold wdF thF;simpa[h0]using this
  ·have e:=(kD hM I hu (by rw[hrd h0];exact h0)).2.2.2 r hr
   rw[zdw e,zdx e];exact this
 refine⟨hbase,?_,rfl,hen,?_,?_,?_,?_,rfl,?_,?_⟩
 ·show Ch M s.n (wdF s.wd o c) (thF s.th o c) s.pc m s.f (l1++{o with st:=2,c:=c}::l2')
  rw[jR]
  refine⟨yB (jR.1 hch).1 (fun q hq=>⟨fun _ ha hb=>?_,fun h0=>?_⟩),fun _=>hno1,?_,fun hs=>hst hs.2,?_⟩
  ·obtain⟨e1,e2,e3,e4⟩:=hin1 hq
   rw[e1,e2,e3,e4]
   exact⟨ha,hb,rfl,rfl⟩
  ·obtain⟨e1,e2⟩:=hto q (List.mem_append_left _ hq) h0
   exact⟨e2,e1⟩
  ·obtain⟨e1,e2,e3,e4⟩:=hino
   refine⟨hloc.hpc,hloc.ins,hloc.rd,hloc.a,hloc.b,hloc.old,fun h=>absurd hz h,fun _ _=>⟨e3.trans hth.1,e4.trans hth.2⟩,fun _ _=>?_,fun _ h0 hr=>?_,fun h=>absurd rfl h,.inr (.inr rfl),fun h=>absurd rfl h⟩
   ·show c=comC M s.n (fE s.f l1) o.i (pE s.pc l1) (wdF s.wd o c o.a) (wdF s.wd o c o.b)
    rw[e1,e2,<-hloc.hpc]
    exact hc
   ·have hr0:c.rd≠0:=by
     rw[hcm.gives h0,<-hloc.rd];exact hr
    unfold thF wdF upB upI
    simp[hr0]
  ·have e1:nx {o with st:=2,c:=c}=c.next:=by unfold nx;rw[if_pos rfl]
   have e2:nf (fE s.f l1) {o with st:=2,c:=c}=stoC (fE s.f l1) c:=by unfold nf;rw[if_pos rfl]
   rw[e1,e2]
   exact hch2
 ·show Dis s.phys m (tos (l1++{o with st:=2,c:=c}::l2')++(tos l3++s.free))
  have d:=zdy I hu
  have e:tos (l1++{o with st:=2,c:=c}::l2')++(tos l3++s.free)=tos (l1++o::l2)++s.free:=by
   rw[hl,qm,qm,zdv (o:=o) (o':={o with st:=2,c:=c}) rfl rfl,<-List.cons_append,qm]
   simp
  rw[e]
  exact d
 ·show 32+((tos (l1++{o with st:=2,c:=c}::l2')++(tos l3++s.free)).length:Int)=s.phys
  have e:tos (l1++{o with st:=2,c:=c}::l2')++(tos l3++s.free)=tos (l1++o::l2)++s.free:=by
   rw[hl,qm,qm,zdv (o:=o) (o':={o with st:=2,c:=c}) rfl rfl,<-List.cons_append,qm]
   simp
  rw[e,<-hu]
  exact I.cnt
 ·show Rise (l1++{o with st:=2,c:=c}::l2')
  have hr:Rise (l1++o::l2):=hu▸I.rise
  rw[hl]at hr
  have hr3:Rise ((l1++o::l2')++l3):=by simpa using hr
  exact kC (o:=o) (zG.1 hr3).1 rfl
 ·intro q hq
  show 0<=q.seq/\q.seq<s.tak
  rcases List.mem_append.1 hq with h|h
  ·exact I.low q (by rw[hu];exact List.mem_append_left _ h)
  ·rcases List.mem_cons.1 h with h|h
   ·have:=I.low o (by rw[hu];simp)
    rw[h];exact this
   ·exact I.low q (by rw[hu,hl];exact List.mem_append_right _ (List.mem_cons_of_mem _ (List.mem_append_left _ h)))
 ·refine zjJ hA fun q hq g2 g0=>?_
  rcases List.mem_append.1 hq with h|h
  ·exact(hin1 h).1
  ·rcases List.mem_cons.1 h with h|h
   ·rw[h];exact hino.1
   ·exact hw2 q h g2 g0
 ·intro q hq
  rcases List.mem_append.1 hq with h|h
  ·exact I.lat q (by rw[hu];exact List.mem_append_left _ h)
  ·rcases List.mem_cons.1 h with h|h
   ·have:=I.lat o (by rw[hu];simp)
    rw[h];exact this
   ·exact I.lat q (by rw[hu,hl];exact List.mem_append_right _ (List.mem_cons_of_mem _ (List.mem_append_left _ h)))
structure Same(s t:Cr):Prop where
 win:t.win=s.win
 phys:t.phys=s.phys
 wide:t.wide=s.wide
 n:t.n=s.n
 coms:t.coms=s.coms
 R:t.R=s.R
 pc:t.pc=s.pc
 st:t.st=s.st
 ca:t.ca=s.ca
 f:t.f=s.f
 cyc:t.cyc=s.cyc
 tak:t.tak=s.tak
theorem Same.refl(s:Cr):Same s s:=⟨rfl,rfl,rfl,rfl,rfl,rfl,rfl,rfl,rfl,rfl,rfl,rfl⟩
theorem Same.trans{a b c:Cr}(h:Same a b)(k:Same b c):Same a c:=
 ⟨k.win.trans h.win,k.phys.trans h.phys,k.wide.trans h.wide,k.n.trans h.n,k.coms.trans h.coms,k.R.trans h.R,k.pc.trans h.pc,k.st.trans h.st,k.ca.trans h.ca,k.f.trans h.f,k.cyc.trans h.cyc,k.tak.trans h.tak⟩
theorem zep(f:Nat->Int)(a:Nat)(W:Int):sto f a W 0=f:=by
 funext i
 exact vo (by omega)
theorem yh{M:Mc}(hM:MOk M){s:Cr}{m:Nat->Int}(I:Inv M s m){l1 l2:List Dg}{o:Dg}(hu:s.under=l1++o::l2){c:Cm}(h2:o.st≠2)(hth:s.th o.a=true/\s.th o.b=true)(hc:c=comC M s.n (fE s.f l1) o.i o.pc (s.wd o.a) (s.wd o.b))
  (hl:ldn o.i.op≠0->fits s.n (place o.i (s.wd o.a)) (ldn o.i.op)=true->ldA o.seq (place o.i (s.wd o.a)) (ldn o.i.op)∈s.asked):
  Inv M (finish s o c) m/\Same s (finish s o c)/\(finish s o c).scr=s.scr/\(finish s o c).tb=s.tb/\(finish s o c).th=thF s.th o c/\∃l2' l3,l2=l2'++l3/\(finish s o c).under=l1++{o with st:=2,c:=c}::l2':=by
 have hch:=yg I hu
 have hloc:=zad hch
 have hz:(fet M s.n (fE s.f l1) (pE s.pc l1)).2=0:=Classical.byContradiction fun hz=>h2 (hloc.bad hz).1
 obtain⟨x,hx⟩:=vn hz
 rw[<-hloc.ins]at hx
 have hcm:CmIs s.n o.i o.pc c:=by rw[hc];exact yD hM hx _ _ _ _ _
 have hrd:c.rd≠0->o.rd=c.rd:=fun h=>by
  have h0:c.st=0:=Classical.byContradiction fun h'=>h (hcm.stops h').2.1
  rw[hloc.rd,<-hcm.gives h0]
 have hno1:∀q∈l1,¬stp q:=(jR.1 hch).2.1 (by simp)
 obtain⟨l2',l3,F⟩:=zlX hM I hu h2 hcm hl
 obtain⟨A,B,Fr,P,he,hAs,hend⟩:=F.is
 have hsp:=F.split
 have hwd:(fin1 s o c).wd=s.wd:=by rw[he]
 have hrt:jQ (fin1 s o c) o c=(decide (c.rd=0)||!o.gs||decide (s.wd o.to=c.val)):=by unfold jQ;rw[hwd]
 unfold finish
 split
 ·rename_i hgood
  obtain⟨hr,hn⟩:=hgood
  have hst:c.st=0:=Classical.byContradiction fun h'=>by
   obtain⟨e1,_,e3,e4,_⟩:=hcm.stops h'
   have:=hloc.way h2 e3 e4
   omega
  have ht:jc (fin1 s o c) o c={s with under:=l1++{o with st:=2,c:=c}::l2',slots:=(l1++{o with st:=2,c:=c}::l2').map slot,regs:=mE m (l1++{o with st:=2,c:=c}::l2'),free:=tos l3++s.free,asked:=A,bck:=B,fro:=Fr,opn:=P,wd:=wdF s.wd o c,th:=thF s.th o c}:=by
   rw[jY,he]
  have hwt:∀q∈l2',q.st≠0->s.th q.a=true->s.th q.b=true->(thF s.th o c q.a=true/\thF s.th o c q.b=true/\wdF s.wd o c q.a=s.wd q.a/\wdF s.wd o c q.b=s.wd q.b):=by
   intro q hq hs ha hb
   by_cases h0:c.rd=0
   ·unfold thF wdF;simp[h0,ha,hb]
   ·have hro:=hrd h0
    have hg:=hloc.gsd h2 (by rw[hro];exact h0)
    cases hgs:o.gs with
    |false=>
     rw[hgs]at hg
     have e1:q.a≠o.to:=fun e=>by rw[e,hg]at ha;cases ha
     have e2:q.b≠o.to:=fun e=>by rw[e,hg]at hb;cases hb
     rw[zdx e1,zdx e2,zdw e1,zdw e2]
     exact⟨ha,hb,rfl,rfl⟩
    |true=>
     rw[hrt,hgs]at hr
     simp[h0]at hr
     have e:∀x,wdF s.wd o c x=s.wd x:=fun x=>by
      unfold wdF upI
      simp only[h0,if_false]
      split
      ·rename_i hx;rw[hx,hr]
      ·rfl
     have e':∀x,s.th x=true->thF s.th o c x=true:=fun x hx=>by
      unfold thF upB
      simp only[h0,if_false]
      split
      ·rfl
      ·exact hx
     exact⟨e' _ ha,e' _ hb,e _,e _⟩
  have hfull:Ch M s.n s.wd s.th (nx o) (nm (mE m l1) o) (nf (fE s.f l1) o) (l2'++l3):=by
   have:=(jR.1 hch).2.2.2.2
   rw[hsp]at this
   exact this
  have e1:nx o=c.next:=by unfold nx;rw[if_neg h2];exact hn.symm
  have e2:nf (fE s.f l1) o=fE s.f l1:=by unfold nf;rw[if_neg h2]
  rw[e1,e2]at hfull
  have hch2:Ch M s.n (wdF s.wd o c) (thF s.th o c) c.next (nm (mE m l1) o) (stoC (fE s.f l1) c) l2':=by
   refine yB (zkH (Q:=inC c) (jR.1 hfull).1 (fun x hx=>vo hx) F.clear) (fun q hq=>⟨hwt q hq,fun h0=>?_⟩)
   by_cases h0':c.rd=0
   ·unfold thF wdF;simp[h0']
   ·obtain⟨_,n2,_,_⟩:=kD hM I hu (by rw[hrd h0'];exact h0')
    have:q.to≠o.to:=fun e=>n2 (e▸vm (by rw[hsp];exact List.mem_append_left _ hq) h0)
    exact⟨zdx this,zdw this⟩
  refine⟨inv_of hM I hu h2 hth hc hsp ht hAs hch2 (fun h=>absurd hst h) (fun q hq g2 g0=>?_) ?_,?_,?_,?_,?_,l2',l3,hsp,?_⟩
  ·obtain⟨p1,p2,hp,hql⟩:=xk (jR.1 hfull).1 hq
   have hqz:(fet M s.n (fE (fE s.f l1) p1) (pE c.next p1)).2=0:=Classical.byContradiction fun hz=>by
    have:=zbf hz
    rw[hql.ins,this]at g0
    exact g0 (by decide)
   obtain⟨ta,tb⟩:=hql.thr (by omega) hqz
   exact(hwt q hq (by omega) ta tb).2.2.1
  ·have hpE:pE s.pc (l1++{o with st:=2,c:=c}::l2')=pE s.pc (l1++o::l2'):=by
    rw[zav,zav]
    show pE (nx _) l2'=pE (nx o) l2'
    rw[e1]
    unfold nx
    rw[if_pos rfl]
   have hnso:¬stp {o with st:=2,c:=c}:=fun h=>h.2 hst
   rcases hend with⟨e3,e4,e5⟩|⟨e3,e4,e5⟩
   ·subst e3
    rw[List.append_nil]at hsp
    subst hsp
    rcases I.en with⟨g1,g2,g3⟩|⟨g1,l,q,g2,g3⟩
    ·left
     refine⟨e5.trans g1,by rw[hpE,e4,g2,hu],fun q hq=>?_⟩
     rcases List.mem_append.1 hq with h|h
     ·exact hno1 q h
     ·rcases List.mem_cons.1 h with h|h
      ·rw[h];exact hnso
      ·exact g3 q (by rw[hu];exact List.mem_append_right _ (List.mem_cons_of_mem _ h))
    ·right
     refine⟨e5.trans g1,?_⟩
     rw[hu]at g2
     rcases List.eq_nil_or_concat l2 with e|⟨r,y,e⟩
     ·subst e
      have:q=o:=by have:=congrArg List.getLast? g2;simp at this;exact this.symm
      rw[this]at g3
      exact absurd g3.1 h2
     ·rw[List.concat_eq_append]at e
      subst e
      have g2':(l1++o::r)++[y]=l++[q]:=by simpa using g2
      have hqy:y=q:=by have:=(List.append_inj' g2' rfl).2;simpa using this
      exact⟨l1++{o with st:=2,c:=c}::r,y,by simp,by rw[hqy];exact g3⟩
   ·left
    refine⟨e4,by rw[hpE];exact e5,fun q hq=>?_⟩
    rcases List.mem_append.1 hq with h|h
    ·exact hno1 q h
    ·rcases List.mem_cons.1 h with h|h
     ·rw[h];exact hnso
     ·exact(jR.1 hfull).2.1 e3 q h
  ·rw[ht];exact⟨rfl,rfl,rfl,rfl,rfl,rfl,rfl,rfl,rfl,rfl,rfl,rfl⟩
  ·rw[ht]
  ·rw[ht]
  ·rw[ht]
  ·rw[ht]
 ·rename_i hbad
  have hr:Rise (l1++o::l2):=hu▸I.rise
  have hr2:Rise (l1++o::l2'):=by
   rw[hsp]at hr
   have hr3:Rise ((l1++o::l2')++l3):=by simpa using hr
   exact(zG.1 hr3).1
  have hol:Olds m (l1++o::l2'):=by
   have:=vp hch
   rw[hsp]at this
   have h3:Olds m ((l1++o::l2')++l3):=by simpa using this
   exact(xx.1 h3).1
  have hbk:Bk (jc (fin1 s o c) o c) m:=by
   rw[jY,he]
   exact⟨zbj hol rfl rfl rfl,rfl,kC (o:=o) hr2 rfl,rfl⟩
  have hb:=zbi hbk (l1:=l1++[{o with st:=2,c:=c}]) (l2:=l2') (by rw[jY,he];simp) (o.seq+1) c.next (fun q hq=>by
   rcases List.mem_append.1 hq with h|h
   ·have:=(zG.1 hr).2.2 q h o (List.mem_cons_self ..);omega
   ·have:q.seq=o.seq:=by rw[List.mem_singleton.1 h]
    omega) (fun q hq=>by have:=(zV.1 (zG.1 hr2).2.1).1 q hq;omega)
  have ht:{back (jc (fin1 s o c) o c) (o.seq+1) c.next with opn:=decide (c.st=0)}={s with under:=l1++{o with st:=2,c:=c}::[],slots:=(l1++{o with st:=2,c:=c}::[]).map slot,regs:=mE m (l1++{o with st:=2,c:=c}::[]),free:=tos l2++s.free,asked:=A.filter (fun a=>!decide (o.seq+1<=a.seq)),bck:=if l2'=[]then B else B+1,fro:=c.next,opn:=decide (c.st=0),wd:=wdF s.wd o c,th:=thF s.th o c}:=by
   rw[hb,jY,he,hsp,qm]
   simp
  refine⟨inv_of hM I hu h2 hth hc (l2':=[]) (l3:=l2) rfl ht ?_ trivial (fun _=>rfl) (fun q hq=>by cases hq) ?_,?_,?_,?_,?_,[],l2,rfl,?_⟩
  ·refine zkK (l2:=l2') (by simpa using hAs) (o.seq+1) (fun q hq=>?_) (fun q hq=>by have:=(zV.1 (zG.1 hr2).2.1).1 q hq;omega)
   rcases List.mem_append.1 hq with h|h
   ·have:=(zG.1 hr).2.2 q h o (List.mem_cons_self ..);omega
   ·have:q.seq=o.seq:=by rw[List.mem_singleton.1 h]
    omega
  ·by_cases h0:c.st=0
   ·left
    refine⟨by simp[h0],?_,fun q hq=>?_⟩
    ·rw[zav]
     simp[pE,nx]
    ·rcases List.mem_append.1 hq with h|h
     ·exact hno1 q h
     ·rw[List.mem_singleton.1 h];exact fun h=>h.2 h0
   ·exact .inr ⟨by simp[h0],l1,_,rfl,rfl,h0⟩
  ·rw[ht];exact⟨rfl,rfl,rfl,rfl,rfl,rfl,rfl,rfl,rfl,rfl,rfl,rfl⟩
  ·rw[ht]
  ·rw[ht]
  ·rw[ht]
  ·rw[ht]
end Go.Proofs.YtpiohehijkpghabGreatDoor.Co
