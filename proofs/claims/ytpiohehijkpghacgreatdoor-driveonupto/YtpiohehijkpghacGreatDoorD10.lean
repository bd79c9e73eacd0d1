/- Loads and starts of a core: it is as it should be, and what is ahead goes on. Plain mathematics. -/
import Derived.Test.YtpiohehijkpghacGreatDoorD09
open Classical renaming byContradiction->Ae
open Int renaming le_refl->Ar
open List renaming mem_append_left->Aa,mem_cons_of_mem->Ab,mem_append->Ad,mem_append_right->Af,mem_cons->Ag,mem_cons_self->Ah,mem_singleton->Ai,cons_append->Aj,nodup_cons->Ak,foldl_cons->Al,append_of_mem->Am,map_append->An,mem_filter->Ao,map_cons->Ap,mem_map->Aq
set_option linter.unusedSimpArgs false
set_option linter.unusedVariables false
namespace Go.Proofs.YtpiohehijkpghacGreatDoor.Co
open Go.RowKit
open Hy
open Wi Od Re.Hy
open Gu.Hy (Tb)
theorem zi2{n:Nat}{wd wd':Int->Int}{l:List Dg}{k:List Ac}(A:As n wd l k)(h:∀o∈l,o.st=2->ldn o.i.op≠0->wd' o.a=wd o.a):As n wd' l k:=
 ⟨A.of,A.own,A.sto,fun o ho h1 h2 h3=>by
  rw[h o ho h1 h2]at h3⊢
  exact A.lod o ho h1 h2 h3⟩
def wdF(wd:Int->Int)(o:Dg)(c:Cm):Int->Int:=if c.rd=0 then wd else upI wd o.to c.val
def thF(th:Int->Bool)(o:Dg)(c:Cm):Int->Bool:=if c.rd=0 then th else upB th o.to true
theorem zcU{wd:Int->Int}{o:Dg}{c:Cm}{x:Int}(h:x≠o.to):wdF wd o c x=wd x:=by
 unfold wdF upI;split
 ·rfl
 ·exact if_neg h
theorem zcV{th:Int->Bool}{o:Dg}{c:Cm}{x:Int}(h:x≠o.to):thF th o c x=th x:=by
 unfold thF upB;split
 ·rfl
 ·exact if_neg h
theorem jU(s:Cr)(o:Dg)(c:Cm):qX s o c={s with wd:=wdF s.wd o c,th:=thF s.th o c}:=by
 unfold qX wdF thF
 split<;>rfl
theorem kP{M:Mc}{s:Cr}{m:Nat->Int}(I:Inv M s m){l1 l2:List Dg}{o:Dg}(hu:s.under=l1++o::l2):Ch M s.n s.wd s.th s.pc m s.f (l1++o::l2):=hu▸I.ch
theorem zcW{M:Mc}{s:Cr}{m:Nat->Int}(I:Inv M s m){l1 l2:List Dg}{o:Dg}(hu:s.under=l1++o::l2):Dis s.phys m (tos (l1++o::l2)++s.free):=hu▸I.dis
theorem kr{M:Mc}(hM:MOk M){s:Cr}{m:Nat->Int}(I:Inv M s m){l1 l2:List Dg}{o:Dg}(hu:s.under=l1++o::l2)(hrd:o.rd≠0):o.to∉tos l1/\o.to∉tos l2/\o.to∉s.free/\∀r,r<32->m r≠o.to:=by
 have d:=zcW I hu
 have hn:=d.nod
 rw[qf,zQ,if_neg hrd,List.append_assoc,List.nodup_append]at hn
 obtain⟨_,h2,h3⟩:=hn
 rw[Aj,Ak]at h2
 refine⟨fun h=>h3 _ h _ (by simp) rfl,fun h=>h2.1 (Aa _ h),fun h=>h2.1 (Af _ h),fun r hr e=>d.apart r hr ?_⟩
 rw[e,qf,zQ,if_neg hrd]
 simp
theorem zi3{M:Mc}(hM:MOk M){s:Cr}{m:Nat->Int}(I:Inv M s m){l1 l2:List Dg}{o:Dg}(hu:s.under=l1++o::l2){p1 p2:List Dg}{q:Dg}(hp:l1++o::l2=p1++q::p2)(hsub:∀x,x∈tos p1->x∈tos l1)(hrd:o.rd≠0):q.a≠o.to/\q.b≠o.to:=by
 have hch:=kP I hu
 rw[hp]at hch
 obtain⟨ha,hb⟩:=zd9 hM hch
 obtain⟨n1,_,_,n4⟩:=kr hM I hu hrd
 refine⟨?_,?_⟩
 ·rcases ha with⟨r,hr,e⟩|e
  ·rw[e];exact n4 r hr
  ·exact fun h=>n1 (hsub _ (h▸e))
 ·rcases hb with⟨r,hr,e⟩|e
  ·rw[e];exact n4 r hr
  ·exact fun h=>n1 (hsub _ (h▸e))
theorem inv_of{M:Mc}(hM:MOk M){s:Cr}{m:Nat->Int}(I:Inv M s m){l1 l2:List Dg}{o:Dg}(hu:s.under=l1++o::l2){c:Cm}(h2:o.st≠2)(hth:s.th o.a=true/\s.th o.b=true)(hc:c=comC M s.n (fE s.f l1) o.i o.pc (s.wd o.a) (s.wd o.b)){l2' l3:List Dg}(hl:l2=l2'++l3){A:List Ac}{B F:Int}{P:Bool}{t:Cr}
  (ht:t={s with under:=l1++{o with st:=2,c:=c}::l2',slots:=(l1++{o with st:=2,c:=c}::l2').map slot,regs:=mE m (l1++{o with st:=2,c:=c}::l2'),free:=tos l3++s.free,asked:=A,bck:=B,fro:=F,opn:=P,wd:=wdF s.wd o c,th:=thF s.th o c})
  (hA:As s.n s.wd (l1++{o with st:=2,c:=c}::l2') A)
  (hch2:Ch M s.n (wdF s.wd o c) (thF s.th o c) c.next (nm (mE m l1) o) (stoC (fE s.f l1) c) l2')
  (hst:c.st≠0->l2'=[])
  (hw2:∀q∈l2',q.st=2->ldn q.i.op≠0->wdF s.wd o c q.a=s.wd q.a)
  (hen:(P=true/\F=pE s.pc (l1++{o with st:=2,c:=c}::l2')/\∀q∈l1++{o with st:=2,c:=c}::l2',¬stp q)\/(P=false/\∃l q,l1++{o with st:=2,c:=c}::l2'=l++[q]/\stp q)):Inv M t m:=by
 subst ht
 have hch:=kP I hu
 have hloc:=zad hch
 have hz:(fet M s.n (fE s.f l1) (pE s.pc l1)).2=0:=Ae fun hz=>h2 (hloc.bad hz).1
 obtain⟨x,hx⟩:=vo hz
 rw[<-hloc.ins]at hx
 have hcm:CmIs s.n o.i o.pc c:=by rw[hc];exact yx hM hx _ _ _ _ _
 have hrd:c.rd≠0->o.rd=c.rd:=fun h=>by
  have h0:c.st=0:=Ae fun h'=>h (hcm.stops h').2.1
  rw[hloc.rd,<-hcm.gives h0]
 have hne:∀{p1 p2:List Dg} {q:Dg},l1++o::l2=p1++q::p2->(∀x,x∈tos p1->x∈tos l1)->wdF s.wd o c q.a=s.wd q.a/\wdF s.wd o c q.b=s.wd q.b/\thF s.th o c q.a=s.th q.a/\thF s.th o c q.b=s.th q.b:=by
  intro p1 p2 q hp hsub
  by_cases h0:c.rd=0
  ·unfold wdF thF;simp[h0]
  ·obtain⟨e1,e2⟩:=zi3 hM I hu hp hsub (by rw[hrd h0];exact h0)
   exact⟨zcU e1,zcU e2,zcV e1,zcV e2⟩
 have hto:∀q∈l1++l2,q.rd≠0->wdF s.wd o c q.to=s.wd q.to/\thF s.th o c q.to=s.th q.to:=by
  intro q hq hqr
  by_cases h0:c.rd=0
  ·unfold wdF thF;simp[h0]
  ·obtain⟨n1,n2,_,_⟩:=kr hM I hu (by rw[hrd h0];exact h0)
   have:q.to≠o.to:=fun e=>by
    rcases Ad.1 hq with h|h
    ·exact n1 (e▸vn h hqr)
    ·exact n2 (e▸vn h hqr)
   exact⟨zcU this,zcV this⟩
 have hin1:∀{q:Dg},q∈l1->wdF s.wd o c q.a=s.wd q.a/\wdF s.wd o c q.b=s.wd q.b/\thF s.th o c q.a=s.th q.a/\thF s.th o c q.b=s.th q.b:=fun{q} hq=>by
  obtain⟨p1,p2,rfl⟩:=Am hq
  exact hne (p1:=p1) (p2:=p2++o::l2) (by simp) (fun x hx=>by rw[qf];exact Aa _ hx)
 have hino:=hne (p1:=l1) (p2:=l2) (q:=o) rfl (fun x hx=>hx)
 have hno1:∀q∈l1,¬stp q:=(jJ.1 hch).2.1 (by simp)
 have hbase:∀r,r<32->thF s.th o c (m r)=true/\wdF s.wd o c (m r)=s.R r:=fun r hr=>by
  have:=I.base r hr
  by_cases h0:c.rd=0
  ·unfold wdF thF;simpa[h0]using this
  ·have e:=(kr hM I hu (by rw[hrd h0];exact h0)).2.2.2 r hr
   rw[zcU e,zcV e];exact this
 refine⟨hbase,?_,rfl,hen,?_,?_,?_,?_,rfl,?_,?_⟩
 ·show Ch M s.n (wdF s.wd o c) (thF s.th o c) s.pc m s.f (l1++{o with st:=2,c:=c}::l2')
  rw[jJ]
  refine⟨yv (jJ.1 hch).1 (fun q hq=>⟨fun _ ha hb=>?_,fun h0=>?_⟩),fun _=>hno1,?_,fun hs=>hst hs.2,?_⟩
  ·obtain⟨e1,e2,e3,e4⟩:=hin1 hq
   rw[e1,e2,e3,e4]
   exact⟨ha,hb,rfl,rfl⟩
  ·obtain⟨e1,e2⟩:=hto q (Aa _ hq) h0
   exact⟨e2,e1⟩
  ·obtain⟨e1,e2,e3,e4⟩:=hino
   refine⟨hloc.hpc,hloc.ins,hloc.rd,hloc.a,hloc.b,hloc.old,fun h=>absurd hz h,fun _ _=>⟨e3.trans hth.1,e4.trans hth.2⟩,fun _ _=>?_,fun _ h0 hr=>?_,fun h=>absurd rfl h,.inr (.inr rfl),fun h=>absurd rfl h⟩
   ·show c=comC M s.n (fE s.f l1) o.i (pE s.pc l1) (wdF s.wd o c o.a) (wdF s.wd o c o.b)
    rw[e1,e2,<-hloc.hpc]
    exact hc
   ·have hr0:c.rd≠0:=by
     rw[hcm.gives h0,<-hloc.rd];exact hr
    unfold thF wdF upB upI
    simp[hr0]
  ·have e1:nx {o with st:=2,c:=c}=c.next:=by unfold nx;rw[if_pos rfl]
   have e2:nf (fE s.f l1) {o with st:=2,c:=c}=stoC (fE s.f l1) c:=by unfold nf;rw[if_pos rfl]
   rw[e1,e2]
   exact hch2
 ·show Dis s.phys m (tos (l1++{o with st:=2,c:=c}::l2')++(tos l3++s.free))
  have d:=zcW I hu
  have e:tos (l1++{o with st:=2,c:=c}::l2')++(tos l3++s.free)=tos (l1++o::l2)++s.free:=by
   rw[hl,qf,qf,zcT (o:=o) (o':={o with st:=2,c:=c}) rfl rfl,<-Aj,qf]
   simp
  rw[e]
  exact d
 ·show 32+((tos (l1++{o with st:=2,c:=c}::l2')++(tos l3++s.free)).length:Int)=s.phys
  have e:tos (l1++{o with st:=2,c:=c}::l2')++(tos l3++s.free)=tos (l1++o::l2)++s.free:=by
   rw[hl,qf,qf,zcT (o:=o) (o':={o with st:=2,c:=c}) rfl rfl,<-Aj,qf]
   simp
  rw[e,<-hu]
  exact I.cnt
 ·show Rise (l1++{o with st:=2,c:=c}::l2')
  have hr:Rise (l1++o::l2):=hu▸I.rise
  rw[hl]at hr
  have hr3:Rise ((l1++o::l2')++l3):=by simpa using hr
  exact kq (o:=o) (zw.1 hr3).1 rfl
 ·intro q hq
  show 0<=q.seq/\q.seq<s.tak
  rcases Ad.1 hq with h|h
  ·exact I.low q (by rw[hu];exact Aa _ h)
  ·rcases Ag.1 h with h|h
   ·have:=I.low o (by rw[hu];simp)
    rw[h];exact this
   ·exact I.low q (by rw[hu,hl];exact Af _ (Ab _ (Aa _ h)))
 ·refine zi2 hA fun q hq g2 g0=>?_
  rcases Ad.1 hq with h|h
  ·exact(hin1 h).1
  ·rcases Ag.1 h with h|h
   ·rw[h];exact hino.1
   ·exact hw2 q h g2 g0
 ·intro q hq
  rcases Ad.1 hq with h|h
  ·exact I.lat q (by rw[hu];exact Aa _ h)
  ·rcases Ag.1 h with h|h
   ·have:=I.lat o (by rw[hu];simp)
    rw[h];exact this
   ·exact I.lat q (by rw[hu,hl];exact Af _ (Ab _ (Aa _ h)))
structure Same(s t:Cr):Prop where
 win:t.win=s.win
 phys:t.phys=s.phys
 wide:t.wide=s.wide
 n:t.n=s.n
 coms:t.coms=s.coms
 R:t.R=s.R
 pc:t.pc=s.pc
 st:t.st=s.st
 ca:t.ca=s.ca
 f:t.f=s.f
 cyc:t.cyc=s.cyc
 tak:t.tak=s.tak
theorem Same.refl(s:Cr):Same s s:=⟨rfl,rfl,rfl,rfl,rfl,rfl,rfl,rfl,rfl,rfl,rfl,rfl⟩
theorem Same.trans{a b c:Cr}(h:Same a b)(k:Same b c):Same a c:=
 ⟨k.win.trans h.win,k.phys.trans h.phys,k.wide.trans h.wide,k.n.trans h.n,k.coms.trans h.coms,k.R.trans h.R,k.pc.trans h.pc,k.st.trans h.st,k.ca.trans h.ca,k.f.trans h.f,k.cyc.trans h.cyc,k.tak.trans h.tak⟩
theorem zi4(f:Nat->Int)(a:Nat)(W:Int):sto f a W 0=f:=by
 funext i
 exact vq (by omega)
theorem kR{M:Mc}(hM:MOk M){s:Cr}{m:Nat->Int}(I:Inv M s m){l1 l2:List Dg}{o:Dg}(hu:s.under=l1++o::l2){c:Cm}(h2:o.st≠2)(hth:s.th o.a=true/\s.th o.b=true)(hc:c=comC M s.n (fE s.f l1) o.i o.pc (s.wd o.a) (s.wd o.b))
  (hl:ldn o.i.op≠0->fits s.n (place o.i (s.wd o.a)) (ldn o.i.op)=true->ldA o.seq (place o.i (s.wd o.a)) (ldn o.i.op)∈s.asked):
  Inv M (finish s o c) m/\Same s (finish s o c)/\(finish s o c).scr=s.scr/\(finish s o c).tb=s.tb/\(finish s o c).th=thF s.th o c/\∃l2' l3,l2=l2'++l3/\(finish s o c).under=l1++{o with st:=2,c:=c}::l2':=by
 have hch:=kP I hu
 have hloc:=zad hch
 have hz:(fet M s.n (fE s.f l1) (pE s.pc l1)).2=0:=Ae fun hz=>h2 (hloc.bad hz).1
 obtain⟨x,hx⟩:=vo hz
 rw[<-hloc.ins]at hx
 have hcm:CmIs s.n o.i o.pc c:=by rw[hc];exact yx hM hx _ _ _ _ _
 have hrd:c.rd≠0->o.rd=c.rd:=fun h=>by
  have h0:c.st=0:=Ae fun h'=>h (hcm.stops h').2.1
  rw[hloc.rd,<-hcm.gives h0]
 have hno1:∀q∈l1,¬stp q:=(jJ.1 hch).2.1 (by simp)
 obtain⟨l2',l3,F⟩:=zlh hM I hu h2 hcm hl
 obtain⟨A,B,Fr,P,he,hAs,hend⟩:=F.is
 have hsp:=F.split
 have hwd:(fin1 s o c).wd=s.wd:=by rw[he]
 have hrt:jI (fin1 s o c) o c=(decide (c.rd=0)||!o.gs||decide (s.wd o.to=c.val)):=by unfold jI;rw[hwd]
 unfold finish
 split
 ·rename_i hgood
  obtain⟨hr,hn⟩:=hgood
  have hst:c.st=0:=Ae fun h'=>by
   obtain⟨e1,_,e3,e4,_⟩:=hcm.stops h'
   have:=hloc.way h2 e3 e4
   omega
  have ht:qX (fin1 s o c) o c={s with under:=l1++{o with st:=2,c:=c}::l2',slots:=(l1++{o with st:=2,c:=c}::l2').map slot,regs:=mE m (l1++{o with st:=2,c:=c}::l2'),free:=tos l3++s.free,asked:=A,bck:=B,fro:=Fr,opn:=P,wd:=wdF s.wd o c,th:=thF s.th o c}:=by
   rw[jU,he]
  have hwt:∀q∈l2',q.st≠0->s.th q.a=true->s.th q.b=true->(thF s.th o c q.a=true/\thF s.th o c q.b=true/\wdF s.wd o c q.a=s.wd q.a/\wdF s.wd o c q.b=s.wd q.b):=by
   intro q hq hs ha hb
   by_cases h0:c.rd=0
   ·unfold thF wdF;simp[h0,ha,hb]
   ·have hro:=hrd h0
    have hg:=hloc.gsd h2 (by rw[hro];exact h0)
    cases hgs:o.gs with
    |false=>
     rw[hgs]at hg
     have e1:q.a≠o.to:=fun e=>by rw[e,hg]at ha;cases ha
     have e2:q.b≠o.to:=fun e=>by rw[e,hg]at hb;cases hb
     rw[zcV e1,zcV e2,zcU e1,zcU e2]
     exact⟨ha,hb,rfl,rfl⟩
    |true=>
     rw[hrt,hgs]at hr
     simp[h0]at hr
     have e:∀x,wdF s.wd o c x=s.wd x:=fun x=>by
      unfold wdF upI
      simp only[h0,if_false]
      split
      ·rename_i hx;rw[hx,hr]
      ·rfl
     have e':∀x,s.th x=true->thF s.th o c x=true:=fun x hx=>by
      unfold thF upB
      simp only[h0,if_false]
      split
      ·rfl
      ·exact hx
     exact⟨e' _ ha,e' _ hb,e _,e _⟩
  have hfull:Ch M s.n s.wd s.th (nx o) (nm (mE m l1) o) (nf (fE s.f l1) o) (l2'++l3):=by
   have:=(jJ.1 hch).2.2.2.2
   rw[hsp]at this
   exact this
  have e1:nx o=c.next:=by unfold nx;rw[if_neg h2];exact hn.symm
  have e2:nf (fE s.f l1) o=fE s.f l1:=by unfold nf;rw[if_neg h2]
  rw[e1,e2]at hfull
  have hch2:Ch M s.n (wdF s.wd o c) (thF s.th o c) c.next (nm (mE m l1) o) (stoC (fE s.f l1) c) l2':=by
   refine yv (zkg (Q:=inC c) (jJ.1 hfull).1 (fun x hx=>vq hx) F.clear) (fun q hq=>⟨hwt q hq,fun h0=>?_⟩)
   by_cases h0':c.rd=0
   ·unfold thF wdF;simp[h0']
   ·obtain⟨_,n2,_,_⟩:=kr hM I hu (by rw[hrd h0'];exact h0')
    have:q.to≠o.to:=fun e=>n2 (e▸vn (by rw[hsp];exact Aa _ hq) h0)
    exact⟨zcV this,zcU this⟩
  refine⟨inv_of hM I hu h2 hth hc hsp ht hAs hch2 (fun h=>absurd hst h) (fun q hq g2 g0=>?_) ?_,?_,?_,?_,?_,l2',l3,hsp,?_⟩
  ·obtain⟨p1,p2,hp,hql⟩:=xb (jJ.1 hfull).1 hq
   have hqz:(fet M s.n (fE (fE s.f l1) p1) (pE c.next p1)).2=0:=Ae fun hz=>by
    have:=zaV hz
    rw[hql.ins,this]at g0
    exact g0 (by decide)
   obtain⟨ta,tb⟩:=hql.thr (by omega) hqz
   exact(hwt q hq (by omega) ta tb).2.2.1
  ·have hpE:pE s.pc (l1++{o with st:=2,c:=c}::l2')=pE s.pc (l1++o::l2'):=by
    rw[zap,zap]
    show pE (nx _) l2'=pE (nx o) l2'
    rw[e1]
    unfold nx
    rw[if_pos rfl]
   have hnso:¬stp {o with st:=2,c:=c}:=fun h=>h.2 hst
   rcases hend with⟨e3,e4,e5⟩|⟨e3,e4,e5⟩
   ·subst e3
    rw[List.append_nil]at hsp
    subst hsp
    rcases I.en with⟨g1,g2,g3⟩|⟨g1,l,q,g2,g3⟩
    ·left
     refine⟨e5.trans g1,by rw[hpE,e4,g2,hu],fun q hq=>?_⟩
     rcases Ad.1 hq with h|h
     ·exact hno1 q h
     ·rcases Ag.1 h with h|h
      ·rw[h];exact hnso
      ·exact g3 q (by rw[hu];exact Af _ (Ab _ h))
    ·right
     refine⟨e5.trans g1,?_⟩
     rw[hu]at g2
     rcases List.eq_nil_or_concat l2 with e|⟨r,y,e⟩
     ·subst e
      have:q=o:=by have:=congrArg List.getLast? g2;simp at this;exact this.symm
      rw[this]at g3
      exact absurd g3.1 h2
     ·rw[List.concat_eq_append]at e
      subst e
      have g2':(l1++o::r)++[y]=l++[q]:=by simpa using g2
      have hqy:y=q:=by have:=(List.append_inj' g2' rfl).2;simpa using this
      exact⟨l1++{o with st:=2,c:=c}::r,y,by simp,by rw[hqy];exact g3⟩
   ·left
    refine⟨e4,by rw[hpE];exact e5,fun q hq=>?_⟩
    rcases Ad.1 hq with h|h
    ·exact hno1 q h
    ·rcases Ag.1 h with h|h
     ·rw[h];exact hnso
     ·exact(jJ.1 hfull).2.1 e3 q h
  ·rw[ht];exact⟨rfl,rfl,rfl,rfl,rfl,rfl,rfl,rfl,rfl,rfl,rfl,rfl⟩
  ·rw[ht]
  ·rw[ht]
  ·rw[ht]
  ·rw[ht]
 ·rename_i hbad
  have hr:Rise (l1++o::l2):=hu▸I.rise
  have hr2:Rise (l1++o::l2'):=by
   rw[hsp]at hr
   have hr3:Rise ((l1++o::l2')++l3):=by simpa using hr
   exact(zw.1 hr3).1
  have hol:Olds m (l1++o::l2'):=by
   have:=vr hch
   rw[hsp]at this
   have h3:Olds m ((l1++o::l2')++l3):=by simpa using this
   exact(xq.1 h3).1
  have hbk:Bk (qX (fin1 s o c) o c) m:=by
   rw[jU,he]
   exact⟨zaZ hol rfl rfl rfl,rfl,kq (o:=o) hr2 rfl,rfl⟩
  have hb:=zaY hbk (l1:=l1++[{o with st:=2,c:=c}]) (l2:=l2') (by rw[jU,he];simp) (o.seq+1) c.next (fun q hq=>by
   rcases Ad.1 hq with h|h
   ·have:=(zw.1 hr).2.2 q h o (Ah ..);omega
   ·have:q.seq=o.seq:=by rw[Ai.1 h]
    omega) (fun q hq=>by have:=(zR.1 (zw.1 hr2).2.1).1 q hq;omega)
  have ht:{back (qX (fin1 s o c) o c) (o.seq+1) c.next with opn:=decide (c.st=0)}={s with under:=l1++{o with st:=2,c:=c}::[],slots:=(l1++{o with st:=2,c:=c}::[]).map slot,regs:=mE m (l1++{o with st:=2,c:=c}::[]),free:=tos l2++s.free,asked:=A.filter (fun a=>!decide (o.seq+1<=a.seq)),bck:=if l2'=[]then B else B+1,fro:=c.next,opn:=decide (c.st=0),wd:=wdF s.wd o c,th:=thF s.th o c}:=by
   rw[hb,jU,he,hsp,qf]
   simp
  refine⟨inv_of hM I hu h2 hth hc (l2':=[]) (l3:=l2) rfl ht ?_ trivial (fun _=>rfl) (fun q hq=>by cases hq) ?_,?_,?_,?_,?_,[],l2,rfl,?_⟩
  ·refine zkj (l2:=l2') (by simpa using hAs) (o.seq+1) (fun q hq=>?_) (fun q hq=>by have:=(zR.1 (zw.1 hr2).2.1).1 q hq;omega)
   rcases Ad.1 hq with h|h
   ·have:=(zw.1 hr).2.2 q h o (Ah ..);omega
   ·have:q.seq=o.seq:=by rw[Ai.1 h]
    omega
  ·by_cases h0:c.st=0
   ·left
    refine⟨by simp[h0],?_,fun q hq=>?_⟩
    ·rw[zap]
     simp[pE,nx]
    ·rcases Ad.1 hq with h|h
     ·exact hno1 q h
     ·rw[Ai.1 h];exact fun h=>h.2 h0
   ·exact .inr ⟨by simp[h0],l1,_,rfl,rfl,h0⟩
  ·rw[ht];exact⟨rfl,rfl,rfl,rfl,rfl,rfl,rfl,rfl,rfl,rfl,rfl,rfl⟩
  ·rw[ht]
  ·rw[ht]
  ·rw[ht]
  ·rw[ht]
theorem zgR{M:Mc}{s:Cr}{m:Nat->Int}(I:Inv M s m){l1 l2:List Dg}{o:Dg}(hu:s.under=l1++o::l2){o':Dg}(hL:∀pc m f,Loc M s.n s.wd s.th pc m f o->Loc M s.n s.wd s.th pc m f o')
  (e1:o'.seq=o.seq) (e2:o'.rd=o.rd) (e3:o'.to=o.to) (e4:nx o'=nx o) (h5:o.st≠2) (h6:o'.st≠2) (e7:o'.i=o.i) (e8:o'.pc=o.pc) (hl:0<=o'.late/\o'.late<=9) {t:Cr}
  (ht:t={s with under:=l1++o'::l2}):Inv M t m:=by
 subst ht
 have hch:=kP I hu
 have hd:=zcW I hu
 have hmem:∀q,q∈l1++o'::l2->q=o'\/q∈l1++o::l2:=fun q hq=>by
  rcases Ad.1 hq with h|h
  ·exact .inr (Aa _ h)
  ·rcases Ag.1 h with h|h
   ·exact .inl h
   ·exact .inr (Af _ (Ab _ h))
 have htos:tos (l1++o'::l2)=tos (l1++o::l2):=by rw[qf,qf,zcT e2 e3]
 have hns:¬stp o:=fun h=>h5 h.1
 have hns':¬stp o':=fun h=>h6 h.1
 have hnm:nm (mE m l1) o'=nm (mE m l1) o:=by unfold nm;rw[e2,e3]
 have hnf:nf (fE s.f l1) o'=nf (fE s.f l1) o:=by unfold nf;rw[if_neg h5,if_neg h6]
 refine⟨I.base,?_,?_,?_,?_,?_,?_,?_,?_,?_,?_⟩
 ·show Ch M s.n s.wd s.th s.pc m s.f (l1++o'::l2)
  rw[jJ]at hch⊢
  obtain⟨g1,g2,g3,g4,g5⟩:=hch
  refine⟨g1,fun _=>g2 (by simp),hL _ _ _ g3,fun h=>absurd h hns',?_⟩
  rw[e4,hnm,hnf]
  exact g5
 ·show mE m (l1++o'::l2)=s.regs
  rw[<-I.reg,hu,ko,ko]
  exact zgN e2 e3
 ·have hpE:pE s.pc (l1++o'::l2)=pE s.pc (l1++o::l2):=by
   rw[zap,zap]
   show pE (nx o') l2=pE (nx o) l2
   rw[e4]
  rcases I.en with⟨g1,g2,g3⟩|⟨g1,l,q,g2,g3⟩
  ·left
   refine⟨g1,by rw[hpE,<-hu];exact g2,fun q hq=>?_⟩
   rcases hmem q hq with h|h
   ·rw[h];exact hns'
   ·exact g3 q (by rw[hu];exact h)
  ·right
   refine⟨g1,?_⟩
   rw[hu]at g2
   rcases List.eq_nil_or_concat l2 with e|⟨r,y,e⟩
   ·subst e
    have:o=q:=by have:=(List.append_inj' g2 rfl).2;simpa using this
    rw[<-this]at g3
    exact absurd g3 hns
   ·rw[List.concat_eq_append]at e
    subst e
    have g2':(l1++o::r)++[y]=l++[q]:=by simpa using g2
    have hqy:y=q:=by have:=(List.append_inj' g2' rfl).2;simpa using this
    exact⟨l1++o'::r,y,by simp,by rw[hqy];exact g3⟩
 ·show Dis s.phys m (tos (l1++o'::l2)++s.free)
  rw[htos]
  exact hd
 ·show 32+((tos (l1++o'::l2)++s.free).length:Int)=s.phys
  rw[htos,<-hu]
  exact I.cnt
 ·exact kq (hu▸I.rise) e1
 ·intro q hq
  rcases hmem q hq with h|h
  ·rw[h,e1];exact I.low o (by rw[hu];simp)
  ·exact I.low q (by rw[hu];exact h)
 ·show s.slots=(l1++o'::l2).map slot
  rw[I.slo,hu,An,An,Ap,Ap]
  have:slot o'=slot o:=by unfold slot;rw[e1];simp[h5,h6]
  rw[this]
 ·have hA:As s.n s.wd (l1++o::l2) s.asked:=hu▸I.ask
  have hom:o∈l1++o::l2:=by simp
  have hent:entA o'=entA o:=by unfold entA;rw[if_neg h5,if_neg h6,e1]
  refine⟨fun q hq=>?_,fun p hp=>?_,fun p hp h=>?_,fun p hp h1 h2 h3=>?_⟩
  ·obtain⟨p,hp,e,he⟩:=hA.of q hq
   by_cases hpo:p∈l1\/p∈l2
   ·refine⟨p,?_,e,he⟩
    rcases hpo with h|h
    ·exact Aa _ h
    ·exact Af _ (Ab _ h)
   ·have:p=o:=by
     rcases Ad.1 hp with h|h
     ·exact absurd (.inl h) hpo
     ·rcases Ag.1 h with h|h
      ·exact h
      ·exact absurd (.inr h) hpo
    subst this
    exact⟨o',Af _ (Ah ..),e.trans e1.symm,fun h=>⟨by rw[e7];exact(he h).1,by rw[hent];exact(he h).2⟩⟩
  ·rcases hmem p hp with h|h
   ·have:=hA.own o hom
    unfold ownA at this⊢
    rw[h,e1,e8];exact this
   ·exact hA.own p h
  ·rcases hmem p hp with h'|h'
   ·rw[h',hent];rw[h',e7]at h;exact hA.sto o hom h
   ·exact hA.sto p h' h
  ·rcases hmem p hp with h'|h'
   ·rw[h']at h1;exact absurd h1 h6
   ·exact hA.lod p h' h1 h2 h3
 ·intro q hq
  rcases hmem q hq with h|h
  ·rw[h];exact hl
  ·exact I.lat q (by rw[hu];exact h)
theorem kS{l1 l2:List Dg}{o:Dg}(h:Rise (l1++o::l2)):(l1++o::l2).find? (fun p=>decide (p.seq=o.seq))=some o:=by
 obtain⟨h1,h2,h3⟩:=zw.1 h
 rw[List.find?_append,List.find?_eq_none.2 (fun p hp=>by have:=h3 p hp o (Ah ..);simp;omega)]
 simp
theorem jK{l:List Dg}{q:Int}{o:Dg}(h:l.find? (fun p=>decide (p.seq=q))=some o):∃l1 l2,l=l1++o::l2/\o.seq=q:=by
 have h1:=List.find?_some h
 have h2:=List.mem_of_find?_eq_some h
 obtain⟨l1,l2,e⟩:=Am h2
 exact⟨l1,l2,e,by simpa using h1⟩
theorem zgS{M:Mc}{s:Cr}{m:Nat->Int}(I:Inv M s m){l1 l2:List Dg}{o:Dg}(hu:s.under=l1++o::l2)(x many:Int):Inv M {s with asked:=s.asked++[ldA o.seq x many]} m:=by
 refine⟨I.base,I.ch,I.reg,I.en,I.dis,I.cnt,I.rise,I.low,I.slo,⟨fun q hq=>?_,fun p hp=>Aa _ (I.ask.own p hp),fun p hp h=>Aa _ (I.ask.sto p hp h),fun p hp h1 h2 h3=>Aa _ (I.ask.lod p hp h1 h2 h3)⟩,I.lat⟩
 rcases Ad.1 hq with h|h
 ·exact I.ask.of q h
 ·rw[Ai.1 h]
  exact⟨o,by show o∈s.under;rw[hu];simp,rfl,fun h=>by cases h⟩
theorem zns{n:Nat}{wd:Int->Int}{l1 l2:List Dg}{k:List Ac}(A:As n wd (l1++l2) k)(hr:Rise (l1++l2)){s:Int}(h1:∀o∈l1,o.seq<s)(h2:∀o∈l2,s<=o.seq)(hc:∀o∈l1,cmOk o)(f:Nat->Int)(a:Nat):
  sb k s k.length a f=fun i=>fE f l1 (a+i):=by
 funext i
 have:=zlf A hr h1 h2 hc f (a+i)
 unfold sb
 rw[<-this]
 rfl
theorem zli{th:Int->Bool}{o:Dg}{c:Cm}{x:Int}(h:th x=true):thF th o c x=true:=by
 unfold thF upB
 split
 ·exact h
 ·show(if x=o.to then true else th x)=true
  split
  ·rfl
  ·exact h
structure Step(s t:Cr)(l1 l2:List Dg)(o o':Dg):Prop where
 same:Same s t
 scr:t.scr=s.scr
 tb:t.tb=s.tb
 thr:∀x,s.th x=true->t.th x=true
 under:∃l2' l3,l2=l2'++l3/\t.under=l1++o'::l2'
theorem zi5{M:Mc}(hM:MOk M){s:Cr}{m:Nat->Int}(I:Inv M s m){l1 l2:List Dg}{o:Dg}(hu:s.under=l1++o::l2)(h1:o.st=1):
  Inv M (lod1 s o) m/\∃o',Step s (lod1 s o) l1 l2 o o'/\(o'=o\/(o'.st=2/\o'.seq=o.seq))/\(seeU s.asked o.seq=true->o'.st=2):=by
 have hch:=kP I hu
 have hloc:=zad hch
 have hr:Rise (l1++o::l2):=hu▸I.rise
 have hld:ldn o.i.op≠0:=by
  rcases hloc.sta with h|⟨_,h⟩|h
  ·omega
  ·exact h
  ·omega
 have hz:(fet M s.n (fE s.f l1) (pE s.pc l1)).2=0:=Ae fun hz=>by have:=(hloc.bad hz).1;omega
 have hth:=hloc.thr (by omega) hz
 have hA:As s.n s.wd (l1++o::l2) s.asked:=hu▸I.ask
 have hsb:=zns hA hr (s:=o.seq) (fun q hq=>(zw.1 hr).2.2 q hq o (Ah ..)) (fun q hq=>by
  rcases Ag.1 hq with h|h
  ·rw[h];exact Ar _
  ·have:=(zR.1 (zw.1 hr).2.1).1 q h;omega) (zki hM (jJ.1 hch).1) s.f (place o.i (s.wd o.a)).toNat
 unfold lod1
 simp only[]
 split
 ·rename_i hf
  split
  ·rename_i hs
   refine⟨I,o,⟨Same.refl s,rfl,rfl,fun _ h=>h,l2,[],by simp,hu⟩,.inl rfl,fun h=>?_⟩
   rw[h]at hs
   cases hs
  ·have hI:=zgS I hu (place o.i (s.wd o.a)) (ldn o.i.op)
   have hc:onC o.pc o.i.rd (ldv o.i.op (sb s.asked o.seq s.asked.length (place o.i (s.wd o.a)).toNat s.f))=comC M s.n (fE s.f l1) o.i o.pc (s.wd o.a) (s.wd o.b):=by
    unfold comC qc
    rw[if_pos hld,if_pos hf,hsb]
   obtain⟨g1,g2,g3,g4,gt,l2',l3,g5,g6⟩:=kR hM hI (s:={s with asked:=s.asked++[ldA o.seq (place o.i (s.wd o.a)) (ldn o.i.op)]}) hu (by omega) hth hc (fun _ _=>by simp)
   exact⟨g1,_,⟨(show Same s {s with asked:=s.asked++[ldA o.seq (place o.i (s.wd o.a)) (ldn o.i.op)]}from⟨rfl,rfl,rfl,rfl,rfl,rfl,rfl,rfl,rfl,rfl,rfl,rfl⟩).trans g2,g3,g4,fun x h=>by rw[gt];exact zli h,l2',l3,g5,g6⟩,.inr ⟨rfl,rfl⟩,fun _=>rfl⟩
 ·rename_i hf
  have hc:qj o.pc 3=comC M s.n (fE s.f l1) o.i o.pc (s.wd o.a) (s.wd o.b):=by
   unfold comC qc
   rw[if_pos hld,if_neg hf]
  obtain⟨g1,g2,g3,g4,gt,l2',l3,g5,g6⟩:=kR hM I hu (by omega) hth hc (fun _ h=>absurd h hf)
  exact⟨g1,_,⟨g2,g3,g4,fun x h=>by rw[gt];exact zli h,l2',l3,g5,g6⟩,.inr ⟨rfl,rfl⟩,fun _=>rfl⟩
theorem za0{M:Mc}(hM:MOk M){s:Cr}{m:Nat->Int}(I:Inv M s m){l1 l2:List Dg}{o:Dg}(hu:s.under=l1++o::l2)(h1:o.st=1):
  Inv M (lodS s o.seq) m/\∃o',Step s (lodS s o.seq) l1 l2 o o'/\o'.seq=o.seq/\(o'=o\/o'={o with late:=o.late-1}/\0<o.late\/o'.st=2)/\(seeU s.asked o.seq=true->o'.st=2\/o'.st=1/\o'.late=o.late-1/\0<o.late):=by
 have hr:Rise (l1++o::l2):=hu▸I.rise
 unfold lodS
 rw[hu,kS hr]
 simp only[]
 split
 ·rename_i hlt
  rw[vt hr]
  have hlat:=I.lat o (by rw[hu];simp)
  refine⟨zgR I hu (o':={o with late:=o.late-1}) (fun pc m f h=>⟨h.hpc,h.ins,h.rd,h.a,h.b,h.old,h.bad,h.thr,h.com,h.fil,h.gsd,h.sta,h.way⟩) rfl rfl rfl rfl (by omega) (by show o.st≠2;omega) rfl rfl (by show 0<=o.late-1/\o.late-1<=9;omega) rfl,{o with late:=o.late-1},⟨⟨rfl,rfl,rfl,rfl,rfl,rfl,rfl,rfl,rfl,rfl,rfl,rfl⟩,rfl,rfl,fun _ h=>h,l2,[],by simp,rfl⟩,rfl,.inr (.inl ⟨rfl,hlt⟩),fun _=>.inr ⟨h1,rfl,hlt⟩⟩
 ·obtain⟨g1,o',g2,g3,g4⟩:=zi5 hM I hu h1
  refine⟨g1,o',g2,?_,?_,fun h=>.inl (g4 h)⟩
  ·rcases g3 with h|h
   ·rw[h]
   ·exact h.2
  ·rcases g3 with h|h
   ·exact .inl h
   ·exact .inr (.inr h.1)
theorem za1{M:Mc}(hM:MOk M){s:Cr}{m:Nat->Int}(I:Inv M s m){l1 l2:List Dg}{o:Dg}(hu:s.under=l1++o::l2)(h1:o.st=0)(hth:s.th o.a=true/\s.th o.b=true):
  Inv M (sta1 M s o) m/\∃o',Step s (sta1 M s o) l1 l2 o o'/\o'.seq=o.seq/\o'.late=o.late/\(o'.st=2\/o'.st=1):=by
 have hch:=kP I hu
 have hloc:=zad hch
 have hr:Rise (l1++o::l2):=hu▸I.rise
 unfold sta1
 split
 ·rename_i hld
  have hlat:=I.lat o (by rw[hu];simp)
  rw[hu,vt hr]
  refine⟨zgR I hu (o':={o with st:=1}) (fun pc m f h=>⟨h.hpc,h.ins,h.rd,h.a,h.b,h.old,fun hz=>?_,fun _ _=>hth,fun h=>?_,fun h=>?_,fun _=>h.gsd (by omega),.inr (.inl ⟨rfl,hld⟩),fun _=>h.way (by omega)⟩) rfl rfl rfl ?_ (by omega) (by show(1:Int)≠2;omega) rfl rfl hlat rfl,{o with st:=1},⟨⟨rfl,rfl,rfl,rfl,rfl,rfl,rfl,rfl,rfl,rfl,rfl,rfl⟩,rfl,rfl,fun _ h=>h,l2,[],by simp,rfl⟩,rfl,rfl,.inr rfl⟩
  ·have:=(h.bad hz).1;omega
  ·exact absurd (show(1:Int)=2 from h) (by omega)
  ·exact absurd (show(1:Int)=2 from h) (by omega)
  ·unfold nx
   rw[if_neg (show¬(1:Int)=2 by omega),if_neg (by omega)]
 ·rename_i hld
  have hc:M.dow o.i o.pc (s.wd o.a) (s.wd o.b) s.n=comC M s.n (fE s.f l1) o.i o.pc (s.wd o.a) (s.wd o.b):=by
   unfold comC
   rw[if_neg hld]
  obtain⟨g1,g2,g3,g4,gt,l2',l3,g5,g6⟩:=kR hM I hu (by omega) hth hc (fun h=>absurd h hld)
  exact⟨g1,_,⟨g2,g3,g4,fun x h=>by rw[gt];exact zli h,l2',l3,g5,g6⟩,rfl,rfl,.inl rfl⟩
theorem yz{M:Mc}(P:Cr->Dg->Prop)(g:Cr->Int->Cr)
  (step:∀(s:Cr) (m:Nat->Int) (l1 l2:List Dg) (o:Dg),Inv M s m->s.under=l1++o::l2->P s o->Inv M (g s o.seq) m/\∃o',Step s (g s o.seq) l1 l2 o o'/\o'.seq=o.seq)
  (no:∀(s:Cr) (q:Int),s.under.find? (fun p=>decide (p.seq=q))=none->g s q=s)
  (keep:∀(s t:Cr) (o:Dg),(∀x,s.th x=true->t.th x=true)->P s o->P t o):∀(qs:List Int) (s:Cr) (m:Nat->Int),Inv M s m->qs.Nodup->(∀q∈qs,∀o∈s.under,o.seq=q->P s o)->
   Inv M (qs.foldl g s) m/\Same s (qs.foldl g s)/\(qs.foldl g s).scr=s.scr/\(qs.foldl g s).tb=s.tb/\(∀x,s.th x=true->(qs.foldl g s).th x=true)/\(s.under=[]->(qs.foldl g s).under=[])/\∀h l,s.under=h::l->∃h' l',(qs.foldl g s).under=h'::l'/\h'.seq=h.seq/\(h.seq∉qs->h'=h)
 |[],s,m,I,_,_=>⟨I,Same.refl s,rfl,rfl,fun _ h=>h,fun h=>h,fun h l e=>⟨h,l,e,rfl,fun _=>rfl⟩⟩
 |q::qs,s,m,I,hn,hP=>by
  obtain⟨hnq,hn2⟩:=Ak.1 hn
  cases hf:s.under.find? (fun p=>decide (p.seq=q))with
  |none=>
   have e:(q::qs).foldl g s=qs.foldl g s:=by rw[Al,no s q hf]
   rw[e]
   obtain⟨g1,g2,g3,g4,g5,g6,g7⟩:=yz P g step no keep qs s m I hn2 (fun q' hq'=>hP q' (Ab _ hq'))
   refine⟨g1,g2,g3,g4,g5,g6,fun h l e=>?_⟩
   obtain⟨h',l',e1,e2,e3⟩:=g7 h l e
   exact⟨h',l',e1,e2,fun hh=>e3 (fun hm=>hh (Ab _ hm))⟩
  |some o=>
   obtain⟨l1,l2,hu,rfl⟩:=jK hf
   obtain⟨I',o',S,hs'⟩:=step s m l1 l2 o I hu (hP o.seq (Ah ..) o (by rw[hu];simp) rfl)
   obtain⟨l2',l3,e1,e2⟩:=S.under
   obtain⟨g1,g2,g3,g4,g5,g6,g7⟩:=yz P g step no keep qs (g s o.seq) m I' hn2 (fun q' hq' p hp hpq=>by
    refine keep s _ p S.thr (hP q' (Ab _ hq') p ?_ hpq)
    rw[e2]at hp
    rw[hu,e1]
    rcases Ad.1 hp with h|h
    ·exact Aa _ h
    ·rcases Ag.1 h with h|h
     ·rw[h,hs']at hpq;exact absurd hq' (by rw[<-hpq];exact hnq)
     ·exact Af _ (Ab _ (Aa _ h)))
   rw[Al]
   refine⟨g1,S.same.trans g2,g3.trans S.scr,g4.trans S.tb,fun x h=>g5 x (S.thr x h),fun h=>by rw[h]at hu;simp at hu,fun h l e=>?_⟩
   rw[hu]at e
   cases l1 with
   |nil=>
    simp at e
    obtain⟨h',l',f1,f2,f3⟩:=g7 o' l2' (by rw[e2];rfl)
    exact⟨h',l',f1,by rw[f2,hs',e.1],fun hh=>absurd (by rw[e.1];exact Ah ..) hh⟩
   |cons k l1=>
    simp at e
    obtain⟨h',l',f1,f2,f3⟩:=g7 k (l1++o'::l2') (by rw[e2];rfl)
    exact⟨h',l',f1,by rw[f2,e.1],fun hh=>by rw[f3 (by rw[e.1];exact fun hm=>hh (Ab _ hm)),e.1]⟩
def mu(o:Dg):Int:=if o.st=2 then 1 else if o.st=1 then o.late+2 else 12
theorem xu{l:List Dg}(h:Rise l)(p:Dg->Bool):((l.filter p).map (·.seq)).Nodup:=by
 unfold Rise at h
 have:((l.filter p).map (·.seq)).Pairwise (·<·):=h.sublist (List.filter_sublist.map _)
 exact this.imp fun h=>by omega
theorem zgT{M:Mc}{s:Cr}{m:Nat->Int}(I:Inv M s m){h:Dg}{l:List Dg}(hu:s.under=h::l):seeU s.asked h.seq=true:=by
 unfold seeU
 rw[List.all_eq_true]
 intro q hq
 obtain⟨o,ho,e,_⟩:=I.ask.of q hq
 have hr:=I.rise
 rw[hu]at ho hr
 have:h.seq<=o.seq:=by
  rcases Ag.1 ho with h'|h'
  ·rw[h'];exact Ar _
  ·have:=(zR.1 hr).1 o h';omega
 have e2:decide (q.seq<h.seq)=false:=decide_eq_false (by omega)
 unfold unk ahd
 rw[e2]
 simp
theorem zea{M:Mc}(hM:MOk M){s:Cr}{m:Nat->Int}(I:Inv M s m):
  Inv M (load s) m/\Same s (load s)/\(load s).scr=s.scr/\(load s).tb=s.tb/\(s.under=[]->(load s).under=[])/\∀h l,s.under=h::l->∃h' l',(load s).under=h'::l'/\(h.st≠1->h'=h)/\(h.st=1->mu h'<mu h):=by
 have F:=yz (M:=M) (fun s o=>o.st=1) lodS (fun s m l1 l2 o I hu h1=>by
   obtain⟨g1,o',g2,g3,_⟩:=za0 hM I hu h1
   exact⟨g1,o',g2,g3⟩) (fun s q h=>by unfold lodS;rw[h]) (fun s t o _ h=>h)
 have hn:=xu I.rise (fun o=>decide (o.st=1))
 have hP:∀q∈(s.under.filter fun o=>decide (o.st=1)).map (·.seq),∀o∈s.under,o.seq=q->o.st=1:=fun q hq o ho e=>by
  obtain⟨p,hp,rfl⟩:=Aq.1 hq
  obtain⟨hp1,hp2⟩:=Ao.1 hp
  rw[jT I.rise ho hp1 e]
  simpa using hp2
 obtain⟨g1,g2,g3,g4,g5,g6,g7⟩:=F _ s m I hn hP
 refine⟨g1,g2,g3,g4,g6,fun h l e=>?_⟩
 by_cases h1:h.st=1
 ·have hqs:(s.under.filter fun o=>decide (o.st=1)).map (·.seq)=h.seq::(l.filter fun o=>decide (o.st=1)).map (·.seq):=by
   rw[e,List.filter_cons_of_pos (by simpa using h1)];rfl
  obtain⟨I',o',S,e1,_,e3⟩:=za0 hM I (l1:=[]) e h1
  obtain⟨l2',l3,k1,k2⟩:=S.under
  have hmu:=e3 (zgT I e)
  rw[hqs]at hn hP
  obtain⟨hn1,hn2⟩:=Ak.1 hn
  obtain⟨_,_,_,_,_,_,f7⟩:=F _ (lodS s h.seq) m I' hn2 (fun q hq p hp hpq=>by
   refine hP q (Ab _ hq) p ?_ hpq
   rw[k2]at hp
   rw[e,k1]
   rcases Ag.1 hp with h'|h'
   ·rw[h',e1]at hpq;exact absurd hq (by rw[<-hpq];exact hn1)
   ·exact Ab _ (Aa _ h'))
  obtain⟨h',l',f1,f2,f3⟩:=f7 o' l2' (by rw[k2];rfl)
  refine⟨h',l',?_,fun h=>absurd h1 h,fun _=>?_⟩
  ·unfold load
   rw[hqs,Al]
   exact f1
  ·rw[f3 (by rw[e1];exact hn1)]
   have hlat:=I.lat h (by rw[e];simp)
   unfold mu
   rw[if_neg (by omega:¬h.st=2),if_pos h1]
   rcases hmu with h2|⟨h2,h3,h4⟩
   ·rw[if_pos h2];omega
   ·rw[if_neg (by omega),if_pos h2];omega
 ·obtain⟨h',l',f1,f2,f3⟩:=g7 h l e
  refine⟨h',l',f1,fun _=>f3 (fun hm=>?_),fun h=>absurd h h1⟩
  obtain⟨p,hp,hpe⟩:=Aq.1 hm
  obtain⟨hp1,hp2⟩:=Ao.1 hp
  rw[jT I.rise hp1 (by rw[e];simp) hpe]at hp2
  exact h1 (by simpa using hp2)
end Go.Proofs.YtpiohehijkpghacGreatDoor.Co
