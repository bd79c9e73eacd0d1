/- What a form writes into a word. -/
import Derived.Deep.RegionHeld3
import Derived.Deep.DrawnRows
import Derived.Test.YtpiohehijkpghacGreatDoorD10
open Go.Instr renaming index->Aq
open Go.RowKit.Below renaming refl->Ar
open Int renaming le_refl->Ap
open List renaming mem_cons_of_mem->Aa,mem_singleton->Ab,mem_append_left->Ad,take_succ_cons->Ae,foldl_cons->Af,mem_append->Ag,range->Ah,append_assoc->Ai,mem_cons->Ak,mem_map->Al,nodup_cons->Am,mem_filter->An,map_append->Ao,nodup_append->At,map_cons->Au
open Nat renaming le_refl->Aj
set_option maxHeartbeats 1000000
set_option linter.unusedSimpArgs false
set_option linter.unusedVariables false
open Go.Proofs.Tryz
namespace Go.Proofs.YtpiohehijkpghacGreatDoor.Co
open Go.RowKit
open Hy
open Wi Od Re.Hy
open Gu.Hy (Tb)
theorem zgU{M:Mc}{s:Cr}{m:Nat->Int}(I:Inv M s m)(k:List Int):Inv M {s with scr:=k} m:=
 ⟨I.base,I.ch,I.reg,I.en,I.dis,I.cnt,I.rise,I.low,I.slo,I.ask,I.lat⟩
theorem zi6(s:Cr)(k:List Int):Same s {s with scr:=k}:=⟨rfl,rfl,rfl,rfl,rfl,rfl,rfl,rfl,rfl,rfl,rfl,rfl⟩
theorem zeb{s:Cr}{l:List Int}{q:Int}:q∈turn s l↔q∈l:=by
 unfold turn
 cases l with
 |nil=>simp
 |cons x r=>simp only[];split<;>simp
theorem zar{s:Cr}{l:List Int}(h:l.Nodup):(turn s l).Nodup:=by
 unfold turn
 cases l with
 |nil=>simp
 |cons x r=>
  obtain⟨h1,h2⟩:=Am.1 h
  simp only[]
  split
  ·exact Am.2 ⟨by simpa using h1,by unfold List.Nodup at*;rw[List.pairwise_reverse];exact h2.imp fun h=>h.symm⟩
  ·exact h
theorem zgV{s:Cr}{x:Int}{r:List Int}:∃r',turn s (x::r)=x::r':=by
 unfold turn
 simp only[]
 split
 ·exact⟨_,rfl⟩
 ·exact⟨_,rfl⟩
theorem zbU{M:Mc}(hM:MOk M){s:Cr}{m:Nat->Int}(I:Inv M s m)(hw:1<=s.wide):
  Inv M (start M s) m/\Same s (start M s)/\(start M s).tb=s.tb/\(s.under=[]->(start M s).under=[])/\∀h l,s.under=h::l->∃h' l',(start M s).under=h'::l'/\(h.st≠0->h'=h)/\(h.st=0->mu h'<mu h):=by
 have F:=yz (M:=M) (fun s o=>o.st=0/\s.th o.a=true/\s.th o.b=true) (staS M) (fun s m l1 l2 o I hu h1=>by
   have e:staS M s o.seq=sta1 M s o:=by unfold staS;rw[hu,kS (hu▸I.rise)]
   obtain⟨g1,o',g2,g3,_⟩:=za1 hM I hu h1.1 h1.2
   rw[e]
   exact⟨g1,o',g2,g3⟩) (fun s q h=>by unfold staS;rw[h]) (fun s t o ht h=>⟨h.1,ht _ h.2.1,ht _ h.2.2⟩)
 obtain⟨s1,hs1⟩:∃s1,s1=if 1<(ready s).length then chS s else s:=⟨_,rfl⟩
 have hex:∃k,s1={s with scr:=k}:=by
  rw[hs1]
  split
  ·exact⟨_,rfl⟩
  ·exact⟨s.scr,rfl⟩
 obtain⟨k,hk⟩:=hex
 have I1:Inv M s1 m:=by rw[hk];exact zgU I k
 have hu1:s1.under=s.under:=by rw[hk]
 have hth1:s1.th=s.th:=by rw[hk]
 have hS1:Same s s1:=by rw[hk];exact zi6 s k
 have htb1:s1.tb=s.tb:=by rw[hk]
 obtain⟨qs,hqs⟩:∃qs,qs=(turn s (ready s)).take s.wide.toNat:=⟨_,rfl⟩
 have hst:start M s=qs.foldl (staS M) s1:=by rw[hqs,hs1];rfl
 have hn:qs.Nodup:=by rw[hqs];exact(zar (xu I.rise _)).sublist (List.take_sublist _ _)
 have hP:∀q∈qs,∀o∈s1.under,o.seq=q->o.st=0/\s1.th o.a=true/\s1.th o.b=true:=fun q hq o ho e=>by
  rw[hqs]at hq
  have hq:=zeb.1 (List.mem_of_mem_take hq)
  unfold ready at hq
  obtain⟨p,hp,rfl⟩:=Al.1 hq
  obtain⟨hp1,hp2⟩:=An.1 hp
  rw[hu1]at ho
  rw[hth1,jT I.rise ho hp1 e]
  simp at hp2
  exact⟨hp2.1.1,hp2.1.2,hp2.2⟩
 obtain⟨g1,g2,g3,g4,g5,g6,g7⟩:=F qs s1 m I1 hn hP
 rw[hst]
 refine⟨g1,hS1.trans g2,g4.trans htb1,fun h=>g6 (hu1.trans h),fun h l e=>?_⟩
 have hloc:=zad (l1:=[]) (show Ch M s.n s.wd s.th s.pc m s.f ([]++h::l)from e▸I.ch)
 by_cases h0:h.st=0
 ·obtain⟨_,hra,hrb⟩:=kO hM hloc
  have ha:s.th h.a=true:=by rw[hloc.a];exact(I.base _ hra).1
  have hb:s.th h.b=true:=by rw[hloc.b];exact(I.base _ hrb).1
  have hrd:∃r,ready s=h.seq::r:=by
   unfold ready
   rw[e,List.filter_cons_of_pos (by simp[h0,ha,hb])]
   exact⟨_,rfl⟩
  obtain⟨r,hr⟩:=hrd
  obtain⟨r',hr'⟩:=zgV (s:=s) (x:=h.seq) (r:=r)
  obtain⟨w,hw'⟩:∃w,s.wide.toNat=w+1:=⟨s.wide.toNat-1,by omega⟩
  have hq:qs=h.seq::r'.take w:=by rw[hqs,hr,hr',hw',Ae]
  have e1:s1.under=[]++h::l:=hu1.trans e
  have hsta:staS M s1 h.seq=sta1 M s1 h:=by
   unfold staS
   rw[e1,kS (show Rise ([]++h::l)from e▸I.rise)]
  obtain⟨I',o',S,k1,k2,k3⟩:=za1 hM I1 e1 h0 (by rw[hth1];exact⟨ha,hb⟩)
  rw[<-hsta]at I' S
  obtain⟨l2',l3,k4,k5⟩:=S.under
  rw[hq]at hn hP
  obtain⟨hn1,hn2⟩:=Am.1 hn
  obtain⟨_,_,_,_,_,_,f7⟩:=F _ (staS M s1 h.seq) m I' hn2 (fun q hq p hp hpq=>by
   have hpm:p∈s1.under:=by
    rw[k5]at hp
    rw[e1,k4]
    rcases Ak.1 hp with h'|h'
    ·rw[h',k1]at hpq;exact absurd hq (by rw[<-hpq];exact hn1)
    ·exact Aa _ (Ad _ h')
   obtain⟨x1,x2,x3⟩:=hP q (Aa _ hq) p hpm hpq
   exact⟨x1,S.thr _ x2,S.thr _ x3⟩)
  obtain⟨h',l',f1,f2,f3⟩:=f7 o' l2' (by rw[k5];rfl)
  refine⟨h',l',by rw[hq,Af];exact f1,fun h=>absurd h0 h,fun _=>?_⟩
  rw[f3 (by rw[k1];exact hn1)]
  have hlat:=I.lat h (by rw[e];simp)
  unfold mu
  rw[if_neg (by omega:¬h.st=2),if_neg (by omega:¬h.st=1),k2]
  rcases k3 with h2|h2
  ·rw[if_pos h2];omega
  ·rw[if_neg (by omega),if_pos h2];omega
 ·obtain⟨h',l',f1,f2,f3⟩:=g7 h l (hu1.trans e)
  refine⟨h',l',f1,fun _=>f3 (fun hm=>?_),fun h=>absurd h h0⟩
  exact h0 (hP _ hm h (by rw[hu1,e];simp) rfl).1
theorem zgW{M:Mc}(hM:MOk M){s:Cr}{m:Nat->Int}(I:Inv M s m)(ho:s.opn=true){o:Dg}{wd:Int->Int}{th:Int->Bool}{regs:Nat->Int}{free:List Int}{A:List Ac}{scr:List Int}{fro:Int}{op:Bool}{t:Cr}
  (ht:t={s with slots:=s.slots++[slot o],under:=s.under++[o],tak:=s.tak+1,asked:=A,regs:=regs,free:=free,wd:=wd,th:=th,scr:=scr,fro:=fro,opn:=op})
  (hseq:o.seq=s.tak) (htak:0<=s.tak) (hL:Loc M s.n wd th (pE s.pc s.under) (mE m s.under) (fE s.f s.under) o)
  (hfree:s.free=(if o.rd=0 then[]else[o.to])++free) (hregs:regs=nm s.regs o)
  (hw:∀x,(o.rd≠0->x≠o.to)->wd x=s.wd x/\th x=s.th x)
  (hA:A=s.asked++(ownA o::if sts o.i then[st0 o.seq]else[])) (hst:o.st=0\/(o.st=2/\sts o.i=false/\ldn o.i.op=0))
  (hlat:0<=o.late/\o.late<=9)
  (hen:(op=true/\fro=nx o/\¬stp o)\/(op=false/\stp o)):Inv M t m:=by
 have hno:∀q∈s.under,¬stp q:=by
  rcases I.en with⟨_,_,h⟩|⟨h,_⟩
  ·exact h
  ·rw[ho]at h;cases h
 have htos:tos (s.under++[o])++free=tos s.under++s.free:=by
  rw[qf,hfree,zQ]
  split<;>simp[tos]
 have hfr:o.rd≠0->o.to∈s.free:=fun h=>by rw[hfree,if_neg h];simp
 have hd:=I.dis
 have hnm:∀r,r<32->o.rd≠0->m r≠o.to:=fun r hr h e=>hd.apart r hr (by rw[e];exact List.mem_append_right _ (hfr h))
 have hnt:o.rd≠0->o.to∉tos s.under:=fun h hm=>by
  have:=(At.1 hd.nod).2.2 _ hm _ (hfr h)
  exact this rfl
 have hM':∀q∈s.under,q.rd≠0->(o.rd≠0->q.to≠o.to):=fun q hq hr h e=>hnt h (e▸vn hq hr)
 subst ht
 have hmem:∀q,q∈s.under++[o]->q∈s.under\/q=o:=fun q hq=>by
  rcases Ag.1 hq with h|h
  ·exact .inl h
  ·exact .inr (Ab.1 h)
 have hrd:∀q∈s.under,(wd q.a=s.wd q.a/\th q.a=s.th q.a)/\(wd q.b=s.wd q.b/\th q.b=s.th q.b):=fun q hq=>by
  obtain⟨l1,l2,e⟩:=List.append_of_mem hq
  have hc:=I.ch
  rw[e]at hc
  obtain⟨ha,hb⟩:=zd9 hM hc
  have hsub:∀x,x∈tos l1->o.rd≠0->x≠o.to:=fun x hx h ex=>hnt h (by rw[e,qf,<-ex];exact Ad _ hx)
  refine⟨hw q.a fun h=>?_,hw q.b fun h=>?_⟩
  ·rcases ha with⟨r,hr,e2⟩|e2
   ·rw[e2];exact hnm r hr h
   ·exact hsub _ e2 h
  ·rcases hb with⟨r,hr,e2⟩|e2
   ·rw[e2];exact hnm r hr h
   ·exact hsub _ e2 h
 refine⟨fun r hr=>?_,?_,?_,?_,?_,?_,?_,?_,?_,?_,?_⟩
 ·obtain⟨e1,e2⟩:=hw (m r) (fun h=>hnm r hr h)
  show th (m r)=true/\wd (m r)=s.R r
  rw[e1,e2]
  exact I.base r hr
 ·show Ch M s.n wd th s.pc m s.f (s.under++[o])
  rw[jJ]
  refine⟨yv I.ch (fun q hq=>⟨fun hs ha hb=>?_,fun h0=>?_⟩),fun _=>hno,hL,fun _=>rfl,trivial⟩
  ·obtain⟨⟨e1,e2⟩,e3,e4⟩:=hrd q hq
   rw[e1,e2,e3,e4]
   exact⟨ha,hb,rfl,rfl⟩
  ·obtain⟨e1,e2⟩:=hw q.to (hM' q hq h0)
   exact⟨e2,e1⟩
 ·show mE m (s.under++[o])=regs
  rw[ko,I.reg,hregs]
  rfl
 ·have hpE:pE s.pc (s.under++[o])=nx o:=by rw[zap];rfl
  rcases hen with⟨h1,h2,h3⟩|⟨h1,h2⟩
  ·left
   refine⟨h1,h2.trans hpE.symm,fun q hq=>?_⟩
   rcases hmem q hq with h|h
   ·exact hno q h
   ·rw[h];exact h3
  ·exact .inr ⟨h1,s.under,o,rfl,h2⟩
 ·show Dis s.phys m (tos (s.under++[o])++free)
  rw[htos]
  exact hd
 ·show 32+((tos (s.under++[o])++free).length:Int)=s.phys
  rw[htos]
  exact I.cnt
 ·show Rise (s.under++[o])
  rw[zw]
  refine⟨I.rise,by simp[Rise],fun q hq p hp=>?_⟩
  rw[Ab.1 hp,hseq]
  exact(I.low q hq).2
 ·intro q hq
  show 0<=q.seq/\q.seq<s.tak+1
  rcases hmem q hq with h|h
  ·have:=I.low q h;omega
  ·rw[h,hseq];omega
 ·show s.slots++[slot o]=(s.under++[o]).map slot
  rw[I.slo,Ao]
  rfl
 ·show As s.n wd (s.under++[o]) A
  have hent:sts o.i=true->entA o=st0 o.seq:=fun h=>by
   unfold entA
   rcases hst with h'|⟨_,h',_⟩
   ·rw[if_neg (by omega)]
   ·rw[h]at h';cases h'
  have hold:∀a∈s.asked,a∈A:=fun a ha=>by rw[hA];exact Ad _ ha
  refine⟨fun q hq=>?_,fun p hp=>?_,fun p hp h=>?_,fun p hp h1 h2 h3=>?_⟩
  ·rw[hA]at hq
   rcases Ag.1 hq with h|h
   ·obtain⟨p,hp,e,he⟩:=I.ask.of q h
    exact⟨p,Ad _ hp,e,he⟩
   ·refine⟨o,by simp,?_⟩
    rcases Ak.1 h with h|h
    ·rw[h];exact⟨rfl,fun h=>by cases h⟩
    ·split at h
     ·rename_i hs
      rw[Ab.1 h]
      exact⟨rfl,fun _=>⟨hs,(hent hs).symm⟩⟩
     ·cases h
  ·rcases hmem p hp with h|h
   ·exact hold _ (I.ask.own p h)
   ·rw[h,hA];simp
  ·rcases hmem p hp with h'|h'
   ·exact hold _ (I.ask.sto p h' h)
   ·rw[h']at h⊢
    rw[hent h,hA,if_pos h]
    simp
  ·rcases hmem p hp with h'|h'
   ·rw[(hrd p h').1.1]at h3⊢
    exact hold _ (I.ask.lod p h' h1 h2 h3)
   ·rw[h']at h1 h2
    rcases hst with h4|⟨_,_,h4⟩
    ·omega
    ·exact absurd h4 h2
 ·intro q hq
  rcases hmem q hq with h|h
  ·exact I.lat q h
  ·rw[h];exact hlat
theorem za2(s:Cr):0<=chN s:=by
 unfold chN
 split<;>omega
theorem zlj(M:Mc)(s:Cr)(o:Dg):∃K,(wayO M s o).1={s with scr:=K}/\(o.i.op≠3->trn o.i=false->(wayO M s o).2=(o.pc+4)%4294967296):=by
 unfold wayO
 split
 ·exact⟨s.scr,rfl,fun h=>by contradiction⟩
 ·split
  ·rename_i h
   exact⟨_,rfl,fun _ h'=>by rw[h]at h';cases h'⟩
  ·exact⟨s.scr,rfl,fun _ _=>rfl⟩
theorem zlk(M:Mc)(s:Cr)(o:Dg)(hg:o.gs=false):∃L k g K v,(gueL M s o).2={o with late:=L,car:=k,gs:=g}/\
  (gueL M s o).1={s with scr:=K,wd:=if g=true then upI s.wd o.to v else s.wd,th:=if g=true then upB s.th o.to true else s.th}/\0<=L/\L<=9/\(g=true->o.rd≠0):=by
 have h0:=za2 s
 unfold gueL
 simp only[]
 split
 ·rename_i h
  exact⟨chN s%10,decide (chN s/10%2=1),true,s.scr.tail,(valO M s o.pc (chN s/10/2)).1,rfl,rfl,by omega,by omega,fun _=>h.2⟩
 ·exact⟨chN s%10,decide (chN s/10%2=1),false,s.scr.tail,0,by rw[<-hg],rfl,by omega,by omega,fun h=>by cases h⟩
theorem zll(M:Mc)(s:Cr)(o:Dg)(hg:o.gs=false)(hl:o.late=0):∃w L k g K v,(gueO M s o).2={o with next:=w,late:=L,car:=k,gs:=g}/\
  (gueO M s o).1={s with fro:=w,scr:=K,wd:=if g=true then upI s.wd o.to v else s.wd,th:=if g=true then upB s.th o.to true else s.th}/\0<=L/\L<=9/\(g=true->o.rd≠0)/\(o.i.op≠3->trn o.i=false->w=(o.pc+4)%4294967296):=by
 obtain⟨K,h1,h2⟩:=zlj M s o
 obtain⟨w,hw⟩:∃w,w=(wayO M s o).2:=⟨_,rfl⟩
 rw[<-hw]at h2
 have e:gueO M s o=if ldn o.i.op=0 then({s with scr:=K,fro:=w},{o with next:=w})else gueL M {s with scr:=K,fro:=w} {o with next:=w}:=by
  unfold gueO
  simp only[]
  rw[h1,<-hw]
 rw[e]
 split
 ·exact⟨w,o.late,o.car,false,K,0,by rw[<-hg],rfl,by omega,by omega,(fun h=>by cases h),h2⟩
 ·obtain⟨L,k,g,K',v,g1,g2,g3,g4,g5⟩:=zlk M {s with scr:=K,fro:=w} {o with next:=w} hg
  exact⟨w,L,k,g,K',v,g1,g2,g3,g4,g5,h2⟩
theorem znt{M:Mc}(hM:MOk M){s:Cr}{m:Nat->Int}(I:Inv M s m):rdI M s=fet M s.n (fE s.f s.under) s.fro:=by
 have h:=zns (l1:=s.under) (l2:=[]) (by simpa using I.ask) (by simpa using I.rise) (s:=s.tak) (fun q hq=>(I.low q hq).2) (fun q hq=>by cases hq) (zki hM I.ch) s.f s.fro.toNat
 unfold rdI fet seeV
 rw[h]
 rfl
theorem zec{l:List Sl}{q:Int}(h:∀p∈l,p.1≠q):donS (l++[(q,false)]) q=l++[(q,true)]:=by
 unfold donS
 rw[Ao]
 congr 1
 ·rw[List.map_congr_left (g:=id) (fun p hp=>by rw[if_neg (h p hp)];rfl),List.map_id]
 ·simp
theorem yC{M:Mc}(hM:MOk M){s:Cr}{m:Nat->Int}(I:Inv M s m)(ho:s.opn=true)(htak:0<=s.tak):
  Inv M (tak1 M s).1 m/\((tak1 M s).2=false->(tak1 M s).1=s/\(s.win<=s.slots.length\/s.free=[]))/\((tak1 M s).2=true->∃o,(tak1 M s).1.under=s.under++[o]/\mu o<=12/\(tak1 M s).1.tak=s.tak+1)/\
   (tak1 M s).1.coms=s.coms/\(tak1 M s).1.R=s.R/\(tak1 M s).1.pc=s.pc/\(tak1 M s).1.st=s.st/\(tak1 M s).1.ca=s.ca/\(tak1 M s).1.f=s.f/\(tak1 M s).1.n=s.n/\(tak1 M s).1.cyc=s.cyc/\(tak1 M s).1.win=s.win/\(tak1 M s).1.phys=s.phys/\(tak1 M s).1.wide=s.wide/\(tak1 M s).1.bck=s.bck/\(tak1 M s).1.tb=s.tb:=by
 have hrI:=znt hM I
 have hfro:s.fro=pE s.pc s.under:=by
  rcases I.en with⟨_,h,_⟩|⟨h,_⟩
  ·exact h
  ·rw[ho]at h;cases h
 unfold tak1
 split
 ·rename_i h
  exact⟨I,fun _=>⟨rfl,.inl h⟩,(fun h=>by cases h),rfl,rfl,rfl,rfl,rfl,rfl,rfl,rfl,rfl,rfl,rfl,rfl,rfl⟩
 ·split
  ·rename_i h
   exact⟨I,fun _=>⟨rfl,.inr h.2⟩,(fun h=>by cases h),rfl,rfl,rfl,rfl,rfl,rfl,rfl,rfl,rfl,rfl,rfl,rfl,rfl⟩
  ·rename_i hfree
   simp only[]
   by_cases hc:(rdI M s).2≠0
   ·rw[if_pos hc]
    have hz:(rdI M s).1=zin:=by rw[hrI]at hc⊢;exact zaV hc
    have e0:gvs zin=0:=zaq.1
    have hnew:(newO M s).rd=0:=by unfold newO;rw[hz];exact e0
    have hnam:namO (askO {s with slots:=s.slots++[(s.tak,false)],tak:=s.tak+1} (newO M s)) (newO M s)=(askO {s with slots:=s.slots++[(s.tak,false)],tak:=s.tak+1} (newO M s),{newO M s with a:=s.regs (ra (newO M s).i),b:=s.regs (rb (newO M s).i)}):=by
     unfold namO
     rw[if_pos hnew]
     rfl
    rw[hnam]
    have hsl:donS (s.slots++[(s.tak,false)]) s.tak=s.slots++[(s.tak,true)]:=zec fun p hp=>by
     rw[I.slo]at hp
     obtain⟨q,hq,rfl⟩:=Al.1 hp
     have:=(I.low q hq).2
     show q.seq≠s.tak
     omega
    obtain⟨o,hoe⟩:∃o:Dg,o={newO M s with a:=s.regs (ra (newO M s).i),b:=s.regs (rb (newO M s).i),st:=2,c:=qj s.fro (rdI M s).2}:=⟨_,rfl⟩
    have hi:o.i=zin:=by rw[hoe];exact hz
    have hL:Loc M s.n s.wd s.th (pE s.pc s.under) (mE m s.under) (fE s.f s.under) o:=by
     have hf2:(fet M s.n (fE s.f s.under) (pE s.pc s.under))=rdI M s:=by rw[hrI,<-hfro]
     refine⟨?_,?_,?_,?_,?_,fun h=>?_,fun _=>?_,fun _ h=>?_,fun _ h=>?_,fun h h0 hr=>?_,fun h=>?_,?_,fun h=>?_⟩
     ·rw[hoe];exact hfro
     ·rw[hf2,hoe];rfl
     ·rw[hoe];rfl
     ·rw[hoe,I.reg]
     ·rw[hoe,I.reg]
     ·rw[hoe]at h;exact absurd hnew h
     ·rw[hf2,hoe,<-hfro];exact⟨rfl,rfl⟩
     ·rw[hf2]at h;exact absurd h hc
     ·rw[hf2]at h;exact absurd h hc
     ·rw[hoe]at hr;exact absurd hnew hr
     ·rw[hoe]at h;exact absurd rfl h
     ·rw[hoe];exact .inr (.inr rfl)
     ·rw[hoe]at h;exact absurd rfl h
    have hstp:stp o:=by rw[hoe];exact⟨rfl,by show(2:Int)≠0;decide⟩
    have hT:({(yo (askO {s with slots:=s.slots++[(s.tak,false)],tak:=s.tak+1} (newO M s)) {newO M s with a:=s.regs (ra (newO M s).i),b:=s.regs (rb (newO M s).i)} (rdI M s).2).1 with under:=(yo (askO {s with slots:=s.slots++[(s.tak,false)],tak:=s.tak+1} (newO M s)) {newO M s with a:=s.regs (ra (newO M s).i),b:=s.regs (rb (newO M s).i)} (rdI M s).2).1.under++[(yo (askO {s with slots:=s.slots++[(s.tak,false)],tak:=s.tak+1} (newO M s)) {newO M s with a:=s.regs (ra (newO M s).i),b:=s.regs (rb (newO M s).i)} (rdI M s).2).2]}:Cr)
      ={s with slots:=s.slots++[slot o],under:=s.under++[o],tak:=s.tak+1,asked:=s.asked++(ownA o::if sts o.i then[st0 o.seq]else[]),regs:=s.regs,free:=s.free,wd:=s.wd,th:=s.th,scr:=s.scr,fro:=s.fro,opn:=false}:=by
     unfold yo askO
     simp only[]
     have e1:donS (s.slots++[(s.tak,false)]) (newO M s).seq=s.slots++[slot o]:=by
      rw[hoe];exact hsl
     rw[e1,hoe]
     rfl
    refine⟨zgW hM I ho hT (by rw[hoe];rfl) htak hL (by rw[hoe,if_pos hnew];rfl) (by unfold nm;rw[if_pos (by rw[hoe];exact hnew)]) (fun _ _=>⟨rfl,rfl⟩) rfl (.inr ⟨by rw[hoe],by rw[hi];exact zaq.2.2.2.2,by rw[hi];exact zaq.2.2.2.1⟩) (by rw[hoe];exact⟨Ap 0,by show(0:Int)<=9;omega⟩) (.inr ⟨rfl,hstp⟩),(fun h=>by cases h),fun _=>⟨_,rfl,?_,rfl⟩,rfl,rfl,rfl,rfl,rfl,rfl,rfl,rfl,rfl,rfl,rfl,rfl,rfl⟩
    have hmu:∀p:Dg,p.st=2->mu p<=12:=fun p hp=>by unfold mu;rw[if_pos hp];omega
    exact hmu _ rfl
   ·rw[if_neg hc]
    have hc:(rdI M s).2=0:=by simpa using hc
    obtain⟨o2,ho2⟩:∃o2:Dg,o2=(namO (askO {s with slots:=s.slots++[(s.tak,false)],tak:=s.tak+1} (newO M s)) (newO M s)).2:=⟨_,rfl⟩
    obtain⟨s2,hs2⟩:∃s2:Cr,s2=(namO (askO {s with slots:=s.slots++[(s.tak,false)],tak:=s.tak+1} (newO M s)) (newO M s)).1:=⟨_,rfl⟩
    rw[<-ho2,<-hs2]
    have f1:o2.gs=false/\o2.late=0/\o2.rd=gvs (rdI M s).1/\o2.i=(rdI M s).1/\o2.pc=s.fro/\o2.seq=s.tak/\o2.st=0/\o2.a=s.regs (ra o2.i)/\o2.b=s.regs (rb o2.i)/\(o2.rd≠0->o2.old=s.regs o2.rd):=by
     rw[ho2]
     unfold namO
     split
     ·exact⟨rfl,rfl,rfl,rfl,rfl,rfl,rfl,rfl,rfl,fun h=>by rename_i h';exact absurd h' h⟩
     ·exact⟨rfl,rfl,rfl,rfl,rfl,rfl,rfl,rfl,rfl,fun _=>rfl⟩
    obtain⟨k1,k2,k3,k4,k5,k6,k7,k8,k9,k10⟩:=f1
    have f2:s2={s with slots:=s.slots++[(s.tak,false)],tak:=s.tak+1,asked:=s.asked++(ownA o2::if sts o2.i then[st0 o2.seq]else[]),regs:=nm s.regs o2,free:=if o2.rd=0 then s.free else s.free.tail,th:=if o2.rd=0 then s.th else upB s.th o2.to false}/\(o2.rd≠0->o2.to=s.free.headD 0):=by
     rw[hs2,ho2]
     unfold namO nm
     by_cases h:(newO M s).rd=0
     ·simp only[h,if_true];exact⟨rfl,fun h'=>absurd rfl h'⟩
     ·simp only[h,if_false];exact⟨rfl,fun _=>rfl⟩
    obtain⟨f2,f3⟩:=f2
    have hfr:o2.rd≠0->s.free=o2.to::s.free.tail:=fun h=>by
     rw[f3 h]
     cases hx:s.free with
     |nil=>exact absurd ⟨by rw[<-k3];exact h,hx⟩ hfree
     |cons x l=>rfl
    obtain⟨w,L,k,g,K,v,g1,g2,g3,g4,g5,g6⟩:=zll M s2 o2 k1 k2
    rw[g1,g2]
    obtain⟨o,hoe⟩:∃o:Dg,o={o2 with next:=w,late:=L,car:=k,gs:=g}:=⟨_,rfl⟩
    rw[<-hoe]
    have hT:({({s2 with fro:=w,scr:=K,wd:=if g=true then upI s2.wd o2.to v else s2.wd,th:=if g=true then upB s2.th o2.to true else s2.th}:Cr)with under:=({s2 with fro:=w,scr:=K,wd:=if g=true then upI s2.wd o2.to v else s2.wd,th:=if g=true then upB s2.th o2.to true else s2.th}:Cr).under++[o]}:Cr)
      ={s with slots:=s.slots++[slot o],under:=s.under++[o],tak:=s.tak+1,asked:=s.asked++(ownA o::if sts o.i then[st0 o.seq]else[]),regs:=nm s.regs o,free:=if o.rd=0 then s.free else s.free.tail,wd:=if g=true then upI s.wd o.to v else s.wd,th:=if g=true then upB (if o.rd=0 then s.th else upB s.th o.to false) o.to true else(if o.rd=0 then s.th else upB s.th o.to false),scr:=K,fro:=w,opn:=s.opn}:=by
     have e1:slot o=(s.tak,false):=by rw[hoe];unfold slot;simp[k6,k7]
     rw[f2,e1,hoe]
     rfl
    have hst:o.st=0:=by rw[hoe];exact k7
    have hf2:(fet M s.n (fE s.f s.under) (pE s.pc s.under))=rdI M s:=by rw[hrI,<-hfro]
    have hth:o.rd≠0->(if g=true then upB (if o.rd=0 then s.th else upB s.th o.to false) o.to true else(if o.rd=0 then s.th else upB s.th o.to false)) o.to=o.gs:=fun h=>by
     have hgs:o.gs=g:=by rw[hoe]
     rw[hgs,if_neg h]
     cases g with
     |false=>simp[upB]
     |true=>simp[upB]
    have hL:Loc M s.n (if g=true then upI s.wd o.to v else s.wd) (if g=true then upB (if o.rd=0 then s.th else upB s.th o.to false) o.to true else(if o.rd=0 then s.th else upB s.th o.to false)) (pE s.pc s.under) (mE m s.under) (fE s.f s.under) o:=by
     refine⟨?_,?_,?_,?_,?_,fun h=>?_,fun h=>?_,fun h _=>absurd hst h,fun h=>?_,fun h=>?_,fun _ h=>hth h,.inl hst,fun _ h3 ht=>?_⟩
     ·rw[hoe,<-hfro];exact k5
     ·rw[hf2,hoe];exact k4
     ·rw[hoe];show o2.rd=gvs o2.i;rw[k3,k4]
     ·rw[hoe,I.reg];exact k8
     ·rw[hoe,I.reg];exact k9
     ·rw[hoe,I.reg]at*;exact k10 h
     ·rw[hf2]at h;exact absurd hc h
     ·omega
     ·omega
     ·rw[hoe]at h3 ht⊢;exact g6 h3 ht
    refine⟨zgW hM I ho hT (by rw[hoe];exact k6) htak hL ?_ rfl (fun x hx=>?_) rfl (.inl hst) (by rw[hoe];exact⟨g3,g4⟩) (.inl ⟨ho,?_,fun h=>by have:=h.1;omega⟩),(fun h=>by cases h),fun _=>⟨o,by rw[f2],?_,by rw[f2]⟩,by rw[f2],by rw[f2],by rw[f2],by rw[f2],by rw[f2],by rw[f2],by rw[f2],by rw[f2],by rw[f2],by rw[f2],by rw[f2],by rw[f2],by rw[f2]⟩
    ·by_cases h:o.rd=0
     ·rw[if_pos h,if_pos h];rfl
     ·rw[if_neg h,if_neg h]
      have:=hfr (by rw[hoe]at h;exact h)
      rw[hoe]
      exact this
    ·refine⟨?_,?_⟩
     ·split
      ·rename_i hg
       have:o.rd≠0:=by rw[hoe];exact g5 hg
       exact if_neg (hx this)
      ·rfl
     ·have base:(if o.rd=0 then s.th else upB s.th o.to false) x=s.th x:=by
       split
       ·rfl
       ·rename_i h;exact if_neg (hx h)
      split
      ·rename_i hg
       have:o.rd≠0:=by rw[hoe];exact g5 hg
       rw[<-base]
       exact if_neg (hx this)
      ·exact base
    ·unfold nx;rw[if_neg (by omega),hoe]
    ·unfold mu;rw[if_neg (by omega),if_neg (by omega)];omega
structure Hs where
 R:Nat->Int
 pc:Int
 st:Int
 ca:Int
 f:Nat->Int
def hsC(M:Mc)(n:Nat)(h:Hs):Cm:=km M n h.R h.pc h.f
def hsN(M:Mc)(n:Nat)(h:Hs):Hs:=⟨updC h.R (hsC M n h),(hsC M n h).next,(hsC M n h).st,(hsC M n h).ca,stoC h.f (hsC M n h)⟩
def hsAt(M:Mc)(n:Nat)(h:Hs):Nat->Hs
 |0=>h
 |k+1=>hsN M n (hsAt M n h k)
structure Ref(M:Mc)(h:Hs)(s:Cr):Prop where
 is:(⟨s.R,s.pc,s.st,s.ca,s.f⟩:Hs)=hsAt M s.n h s.coms.length
 coms:s.coms=(Ah s.coms.length).map fun j=>hsC M s.n (hsAt M s.n h j)
 runs:∀j,j<s.coms.length->(hsAt M s.n h j).st=0
def pop1(M:Mc)(s:Cr)(o:Dg)(l:List Dg):Cr:={com1 M s o with slots:=s.slots.drop 1,under:=l,asked:=s.asked.filter fun q=>!decide (q.seq=o.seq)}
theorem zi7{M:Mc}(hM:MOk M){s:Cr}{m:Nat->Int}(I:Inv M s m){o:Dg}{l:List Dg}(hu:s.under=o::l)(h2:o.st=2):o.c=km M s.n s.R s.pc s.f:=by
 have hloc:=zad (l1:=[]) (show Ch M s.n s.wd s.th s.pc m s.f ([]++o::l)from hu▸I.ch)
 have hloc:Loc M s.n s.wd s.th s.pc m s.f o:=hloc
 obtain⟨_,hra,hrb⟩:=kO hM hloc
 unfold km
 split
 ·rename_i hz
  exact(hloc.bad hz).2
 ·rename_i hz
  have hz:(fet M s.n s.f s.pc).2=0:=by simpa using hz
  rw[hloc.com h2 hz,hloc.a,hloc.b,(I.base _ hra).2,(I.base _ hrb).2,hloc.ins]
theorem zed{M:Mc}(hM:MOk M){s:Cr}{m:Nat->Int}(I:Inv M s m){o:Dg}{l:List Dg}(hu:s.under=o::l)(h2:o.st=2)(h0:o.c.st=0):Inv M (pop1 M s o l) (nm m o):=by
 have hch:Loc M s.n s.wd s.th s.pc m s.f o/\(stp o->l=[])/\Ch M s.n s.wd s.th (nx o) (nm m o) (nf s.f o) l:=by
  have:=I.ch
  rw[hu]at this
  exact this
 obtain⟨hloc,_,htail⟩:=hch
 have hcm:=zkh hM hloc h2
 have hrd:o.c.rd=o.rd:=by rw[hcm.gives h0,hloc.rd]
 have hr32:=(kO hM hloc).1
 have hd:Dis s.phys m (tos (o::l)++s.free):=hu▸I.dis
 have hd1:=Dis.nm hd hr32
 have hcnt:32+((tos (o::l)++s.free).length:Int)=s.phys:=hu▸I.cnt
 have hns:¬stp o:=fun h=>h.2 h0
 have hr:Rise (o::l):=hu▸I.rise
 obtain⟨hr1,hr2⟩:=zR.1 hr
 have hA:As s.n s.wd (o::l) s.asked:=hu▸I.ask
 refine⟨fun r hr=>?_,?_,?_,?_,?_,?_,hr2,fun q hq=>I.low q (by rw[hu];exact Aa _ hq),?_,?_,fun q hq=>I.lat q (by rw[hu];exact Aa _ hq)⟩
 ·show s.th (nm m o r)=true/\s.wd (nm m o r)=updC s.R o.c r
  unfold nm updC
  rw[hrd]
  split
  ·exact I.base r hr
  ·rename_i hz
   by_cases e:r=o.rd
   ·subst e
    rw[zeZ,zeZ]
    exact hloc.fil h2 h0 hz
   ·rw[ziS e,ziS e];exact I.base r hr
 ·show Ch M s.n s.wd s.th o.c.next (nm m o) (stoC s.f o.c) l
  have e1:nx o=o.c.next:=if_pos h2
  have e2:nf s.f o=stoC s.f o.c:=if_pos h2
  rw[<-e1,<-e2]
  exact htail
 ·show mE (nm m o) l=s.regs
  rw[<-I.reg,hu]
  rfl
 ·have e1:nx o=o.c.next:=if_pos h2
  rcases I.en with⟨g1,g2,g3⟩|⟨g1,l0,q,g2,g3⟩
  ·left
   refine⟨g1,?_,fun q hq=>g3 q (by rw[hu];exact Aa _ hq)⟩
   show s.fro=pE o.c.next l
   rw[g2,hu,<-e1]
   rfl
  ·right
   refine⟨g1,?_⟩
   rw[hu]at g2
   cases l0 with
   |nil=>
    simp at g2
    rw[<-g2.1]at g3
    exact absurd g3 hns
   |cons x l0=>
    simp at g2
    exact⟨l0,q,g2.2,g3⟩
 ·show Dis s.phys (nm m o) (tos l++(if o.rd=0 then s.free else s.free++[o.old]))
  split
  ·exact hd1
  ·rename_i hz
   have hold:=hloc.old hz
   rw[zQ,if_neg hz]at hd
   have hm:m o.rd∉o.to::tos l++s.free:=hd.apart _ hr32
   refine⟨hd1.inj,?_,fun r hr hin=>?_,hd1.rm,fun x hx=>?_⟩
   ·rw[<-Ai,At]
    refine⟨hd1.nod,by simp,fun a ha b hb e=>hm ?_⟩
    rw[Ab.1 hb,hold]at e
    rw[<-e]
    exact Aa _ ha
   ·rw[<-Ai]at hin
    rcases Ag.1 hin with h|h
    ·exact hd1.apart r hr h
    ·have h:=Ab.1 h
     rw[hold]at h
     unfold nm at h
     rw[if_neg hz]at h
     by_cases e:r=o.rd
     ·subst e
      rw[zeZ]at h
      exact hm (by rw[<-h];simp)
     ·rw[ziS e]at h
      exact e (hd.inj r o.rd hr hr32 h)
   ·rw[<-Ai]at hx
    rcases Ag.1 hx with h|h
    ·exact hd1.rf x h
    ·rw[Ab.1 h,hold]
     exact hd.rm _ hr32
 ·show 32+((tos l++(if o.rd=0 then s.free else s.free++[o.old])).length:Int)=s.phys
  rw[zQ]at hcnt
  split
  ·rename_i hz;rw[if_pos hz]at hcnt;exact hcnt
  ·rename_i hz;rw[if_neg hz]at hcnt;rw[<-hcnt];simp;omega
 ·show s.slots.drop 1=l.map slot
  rw[I.slo,hu]
  rfl
 ·show As s.n s.wd l (s.asked.filter fun q=>!decide (q.seq=o.seq))
  have keep:∀a∈s.asked,a.seq≠o.seq->a∈s.asked.filter fun q=>!decide (q.seq=o.seq):=fun a ha hn=>An.2 ⟨ha,by simp[hn]⟩
  have hne:∀p∈l,p.seq≠o.seq:=fun p hp=>by have:=hr1 p hp;omega
  refine⟨fun q hq=>?_,fun p hp=>keep _ (hA.own p (Aa _ hp)) (hne p hp),fun p hp h=>keep _ (hA.sto p (Aa _ hp) h) ?_,fun p hp g1 g2 g3=>keep _ (hA.lod p (Aa _ hp) g1 g2 g3) (hne p hp)⟩
  ·obtain⟨hq1,hq2⟩:=An.1 hq
   obtain⟨p,hp,e,he⟩:=hA.of q hq1
   simp at hq2
   rcases Ak.1 hp with h|h
   ·rw[h]at e;exact absurd e hq2
   ·exact⟨p,h,e,he⟩
  ·unfold entA
   split<;>exact hne p hp
theorem zi8{M:Mc}(hM:MOk M){s:Cr}{m:Nat->Int}(I:Inv M s m){o:Dg}{l:List Dg}(hu:s.under=o::l)(h2:o.st=2)(hs:s.st=0){h:Hs}(hR:Ref M h s):Ref M h (pop1 M s o l):=by
 have hc:=zi7 hM I hu h2
 have hc':o.c=hsC M s.n (hsAt M s.n h s.coms.length):=by
  rw[<-hR.is]
  exact hc
 have hlen:(s.coms++[o.c]).length=s.coms.length+1:=by simp
 refine⟨?_,?_,fun j hj=>?_⟩
 ·show(⟨updC s.R o.c,o.c.next,o.c.st,o.c.ca,stoC s.f o.c⟩:Hs)=hsAt M s.n h (s.coms++[o.c]).length
  rw[hlen]
  show _=hsN M s.n (hsAt M s.n h s.coms.length)
  unfold hsN
  rw[<-hc',<-hR.is]
 ·show s.coms++[o.c]=(Ah (s.coms++[o.c]).length).map fun j=>hsC M s.n (hsAt M s.n h j)
  rw[hlen,List.range_succ,Ao,<-hR.coms,hc']
  rfl
 ·have hj:j<(s.coms++[o.c]).length:=hj
  rw[hlen]at hj
  by_cases e:j=s.coms.length
  ·subst e
   show(hsAt M s.n h s.coms.length).st=0
   rw[<-hR.is]
   exact hs
  ·exact hR.runs j (by omega)
def comN(M:Mc)(k:Nat)(s:Cr):Cr:=
 {(s.under.take k).foldl (com1 M) s with slots:=s.slots.drop k,under:=s.under.drop k,asked:=s.asked.filter fun q=>!decide (q.seq∈(s.slots.take k).map (·.1))}
def cutC(s:Cr)(sl:List Sl)(un:List Dg)(ak:List Ac):Cr:={s with slots:=sl,under:=un,asked:=ak}
theorem zbV(M:Mc)(sl:List Sl)(un:List Dg)(ak:List Ac):∀(l:List Dg) (s:Cr),l.foldl (com1 M) (cutC s sl un ak)=cutC (l.foldl (com1 M) s) sl un ak
 |[],s=>rfl
 |o::l,s=>by
  rw[Af,Af]
  exact zbV M sl un ak l (com1 M s o)
theorem zbW{M:Mc}{s:Cr}{m:Nat->Int}(I:Inv M s m){o:Dg}{l:List Dg}(hu:s.under=o::l)(k:Nat):comN M (k+1) s=comN M k (pop1 M s o l):=by
 have hsl:s.slots=slot o::l.map slot:=by rw[I.slo,hu];rfl
 have e:s.asked.filter (fun q=>!decide (q.seq∈(s.slots.take (k+1)).map (·.1)))=(s.asked.filter fun q=>!decide (q.seq=o.seq)).filter fun q=>!decide (q.seq∈((s.slots.drop 1).take k).map (·.1)):=by
  rw[List.filter_filter,hsl]
  refine List.filter_congr fun q _=>?_
  have:(slot o).1=o.seq:=rfl
  rw[Bool.and_comm]
  simp[this]
 have e1:comN M (k+1) s=cutC ((s.under.take (k+1)).foldl (com1 M) s) (s.slots.drop (k+1)) (s.under.drop (k+1)) (s.asked.filter fun q=>!decide (q.seq∈(s.slots.take (k+1)).map (·.1))):=rfl
 have e2:comN M k (pop1 M s o l)=cutC ((l.take k).foldl (com1 M) (cutC (com1 M s o) (s.slots.drop 1) l (s.asked.filter fun q=>!decide (q.seq=o.seq)))) ((s.slots.drop 1).drop k) (l.drop k) ((s.asked.filter fun q=>!decide (q.seq=o.seq)).filter fun q=>!decide (q.seq∈((s.slots.drop 1).take k).map (·.1))):=rfl
 rw[e1,e2,zbV,e,hu,Ae,Af,List.drop_succ_cons,List.drop_drop]
 rw[Nat.add_comm 1 k]
 rfl
structure Stay(s t:Cr):Prop where
 win:t.win=s.win
 phys:t.phys=s.phys
 wide:t.wide=s.wide
 n:t.n=s.n
 cyc:t.cyc=s.cyc
 tak:t.tak=s.tak
 bck:t.bck=s.bck
 scr:t.scr=s.scr
theorem jm(M:Mc)(s:Cr):comN M 0 s=s:=by
 have e:s.asked.filter (fun q=>!decide (q.seq∈(s.slots.take 0).map (·.1)))=s.asked:=List.filter_eq_self.2 fun q _=>by simp
 show cutC _ _ _ _=_
 rw[e]
 rfl
theorem za3{M:Mc}(hM:MOk M){h:Hs}:∀(k:Nat) (s:Cr) (m:Nat->Int),Inv M s m->s.st=0->Ref M h s->k<=s.under.length->(∀o∈s.under.take k,o.st=2)->
  Ref M h (comN M k s)/\(comN M k s).coms.length=s.coms.length+k/\((comN M k s).st=0->∃m',Inv M (comN M k s) m')/\Stay s (comN M k s)
 |0,s,m,I,hs,hR,_,_=>by
  rw[jm]
  exact⟨hR,rfl,fun _=>⟨m,I⟩,rfl,rfl,rfl,rfl,rfl,rfl,rfl,rfl⟩
 |k+1,s,m,I,hs,hR,hk,hd=>by
  cases hu:s.under with
  |nil=>rw[hu]at hk;simp at hk
  |cons o l=>
   have h2:o.st=2:=hd o (by rw[hu];simp)
   have hR':=zi8 hM I hu h2 hs hR
   rw[zbW I hu k]
   have hl1:(pop1 M s o l).coms.length=s.coms.length+1:=by show(s.coms++[o.c]).length=_;simp
   by_cases h0:o.c.st=0
   ·have I':=zed hM I hu h2 h0
    obtain⟨g1,g2,g3,g4⟩:=za3 hM k (pop1 M s o l) (nm m o) I' h0 hR' (by show k<=l.length;rw[hu]at hk;simp at hk;omega) (fun q hq=>hd q (by rw[hu,Ae];exact Aa _ hq))
    exact⟨g1,by rw[g2,hl1];omega,g3,g4.win,g4.phys,g4.wide,g4.n,g4.cyc,g4.tak,g4.bck,g4.scr⟩
   ·have hl:l=[]:=by
     have:=I.ch
     rw[hu]at this
     exact this.2.1 ⟨h2,h0⟩
    subst hl
    rw[hu]at hk
    simp at hk
    subst hk
    rw[jm]
    exact⟨hR',hl1,fun h=>absurd h h0,rfl,rfl,rfl,rfl,rfl,rfl,rfl,rfl⟩
theorem yD:∀(l:List Sl) (k:Nat),qT l k<=k/\qT l k<=l.length
 |[],k=>by simp[qT]
 |q::l,0=>by simp[qT]
 |q::l,k+1=>by
  have:=yD l k
  unfold qT
  split
  ·simp;omega
  ·simp
theorem xv:∀(l:List Dg) (k:Nat),∀o∈l.take (qT (l.map slot) k),o.st=2
 |[],k,o,h=>by simp at h
 |q::l,0,o,h=>by simp[qT]at h
 |q::l,k+1,o,h=>by
  rw[Au]at h
  unfold qT at h
  split at h
  ·rename_i hq
   rw[Ae]at h
   rcases Ak.1 h with h|h
   ·rw[h];simpa[slot]using hq
   ·exact xv l k o h
  ·simp at h
theorem zcX{o:Dg}{l:List Dg}{k:Nat}(h:o.st=2)(hk:0<k):0<qT ((o::l).map slot) k:=by
 obtain⟨j,rfl⟩:∃j,k=j+1:=⟨k-1,by omega⟩
 rw[Au]
 unfold qT
 simp[slot,h]
end Go.Proofs.YtpiohehijkpghacGreatDoor.Co
namespace Go.Proofs.YtpiohehijkpghacGreatDoor.Co
open Go.RowKit
open Hy
open Wi Od Re.Hy
open Gu.Hy (Tb)
structure Keep(s t:Cr):Prop where
 win:t.win=s.win
 phys:t.phys=s.phys
 wide:t.wide=s.wide
 n:t.n=s.n
 coms:t.coms=s.coms
 R:t.R=s.R
 pc:t.pc=s.pc
 st:t.st=s.st
 ca:t.ca=s.ca
 f:t.f=s.f
 cyc:t.cyc=s.cyc
theorem Keep.refl(s:Cr):Keep s s:=⟨rfl,rfl,rfl,rfl,rfl,rfl,rfl,rfl,rfl,rfl,rfl⟩
theorem Keep.trans{a b c:Cr}(h:Keep a b)(k:Keep b c):Keep a c:=
 ⟨k.win.trans h.win,k.phys.trans h.phys,k.wide.trans h.wide,k.n.trans h.n,k.coms.trans h.coms,k.R.trans h.R,k.pc.trans h.pc,k.st.trans h.st,k.ca.trans h.ca,k.f.trans h.f,k.cyc.trans h.cyc⟩
theorem Same.keep{s t:Cr}(h:Same s t):Keep s t:=⟨h.win,h.phys,h.wide,h.n,h.coms,h.R,h.pc,h.st,h.ca,h.f,h.cyc⟩
theorem zgX{M:Mc}(hM:MOk M){s:Cr}{m:Nat->Int}(I:Inv M s m)(ho:s.opn=true)(htak:0<=s.tak):Keep s (tak1 M s).1:=by
 obtain⟨_,_,_,h1,h2,h3,h4,h5,h6,h7,h8,h9,h10,h11,_⟩:=yC hM I ho htak
 exact⟨h9,h10,h11,h7,h1,h2,h3,h4,h5,h6,h8⟩
theorem za4{M:Mc}(hM:MOk M):∀(k:Nat) (s:Cr) (m:Nat->Int),Inv M s m->0<=s.tak->Inv M (takN M k s) m/\Keep s (takN M k s)/\0<=(takN M k s).tak/\(takN M k s).bck=s.bck/\∀h l,s.under=h::l->∃l',(takN M k s).under=h::l'
 |0,s,m,I,ht=>⟨I,Keep.refl s,ht,rfl,fun h l e=>⟨l,e⟩⟩
 |k+1,s,m,I,ht=>by
  unfold takN
  by_cases ho:s.opn=true
  ·rw[if_pos ho]
   have hk:=zgX hM I ho ht
   obtain⟨g1,g2,g3,_,_,_,_,_,_,_,_,_,_,_,gb,_⟩:=yC hM I ho ht
   by_cases h2:(tak1 M s).2=true
   ·rw[if_pos h2]
    obtain⟨o,e1,e2,e3⟩:=g3 h2
    obtain⟨f1,f2,f3,f4,f5⟩:=za4 hM k (tak1 M s).1 m g1 (by rw[e3];omega)
    refine⟨f1,hk.trans f2,f3,f4.trans gb,fun h l e=>?_⟩
    exact f5 h (l++[o]) (by rw[e1,e];rfl)
   ·rw[if_neg h2]
    obtain⟨e1,_⟩:=g2 (by simpa using h2)
    refine⟨g1,hk,by rw[e1];exact ht,by rw[e1],fun h l e=>⟨l,by rw[e1];exact e⟩⟩
  ·rw[if_neg ho]
   exact⟨I,Keep.refl s,ht,rfl,fun h l e=>⟨l,e⟩⟩
theorem ze7{M:Mc}(hM:MOk M){k:Nat}(hk:0<k){s:Cr}{m:Nat->Int}(I:Inv M s m)(ht:0<=s.tak)(hu:s.under=[])(hw:1<=s.win)(hp:33<=s.phys):∃h l,(takN M k s).under=h::l/\mu h<=12:=by
 obtain⟨j,rfl⟩:∃j,k=j+1:=⟨k-1,by omega⟩
 have ho:s.opn=true:=by
  rcases I.en with⟨h,_⟩|⟨_,l,o,h,_⟩
  ·exact h
  ·rw[hu]at h;simp at h
 unfold takN
 rw[if_pos ho]
 obtain⟨g1,g2,g3,_⟩:=yC hM I ho ht
 by_cases h2:(tak1 M s).2=true
 ·rw[if_pos h2]
  obtain⟨o,e1,e2,e3⟩:=g3 h2
  obtain⟨_,_,_,_,f5⟩:=za4 hM j (tak1 M s).1 m g1 (by rw[e3];omega)
  obtain⟨l',hl⟩:=f5 o [] (by rw[e1,hu];rfl)
  exact⟨o,l',hl,e2⟩
 ·obtain⟨_,h⟩:=g2 (by simpa using h2)
  rcases h with h|h
  ·rw[I.slo,hu]at h;simp at h;omega
  ·have:=I.cnt
   rw[hu,h]at this
   simp[tos]at this
   omega
theorem zkk{M:Mc}{s:Cr}{m:Nat->Int}(I:Inv M s m){h:Dg}(hh:h∈s.under):1<=mu h/\mu h<=12:=by
 have:=I.lat h hh
 unfold mu
 split
 ·omega
 ·split<;>omega
structure Good(M:Mc)(h0:Hs)(s:Cr):Prop where
 ref:Ref M h0 s
 inv:s.st=0->∃m,Inv M s m
 tak:0<=s.tak
 bck:0<=s.bck
 cyc:0<=s.cyc
 win:1<=s.win
 phys:33<=s.phys
 wide:1<=s.wide
 many:(s.coms.length:Int)<=s.cyc*s.wide
 most:(s.coms.length:Int)<=2000
 goes:100<=s.coms.length\/s.cyc<=13*s.coms.length+12
 first:s.st=0->100<=s.coms.length\/(s.under=[]/\s.cyc=0)\/∃h l,s.under=h::l/\s.cyc<=13*s.coms.length+13-mu h
theorem zee(s:Cr)(q pc:Int)(h:0<=s.bck):0<=(back s q pc).bck:=by
 unfold back
 simp only[]
 split<;>omega
theorem ze8(s:Cr)(q:Int)(c:Cm)(h:0<=s.bck):0<=(settle s q c).bck:=by
 unfold settle
 simp only[]
 split
 ·exact h
 ·exact zee _ _ _ h
theorem jf(s:Cr)(o:Dg)(c:Cm)(h:0<=s.bck):0<=(finish s o c).bck:=by
 have h1:0<=(fin1 s o c).bck:=by
  unfold fin1
  simp only[]
  split
  ·exact ze8 _ _ _ h
  ·exact h
 have h2:0<=(qX (fin1 s o c) o c).bck:=by rw[jU];exact h1
 unfold finish
 split
 ·exact h2
 ·exact zee _ (o.seq+1) c.next h2
theorem za5(g:Cr->Int->Cr)(hg:∀s q,0<=s.bck->0<=(g s q).bck):∀(l:List Int) (s:Cr),0<=s.bck->0<=(l.foldl g s).bck
 |[],s,h=>h
 |q::l,s,h=>za5 g hg l (g s q) (hg s q h)
theorem zi9(s:Cr)(h:0<=s.bck):0<=(load s).bck:=by
 refine za5 lodS (fun s q h=>?_) _ _ h
 unfold lodS
 split
 ·exact h
 ·split
  ·exact h
  ·unfold lod1
   simp only[]
   split
   ·split
    ·exact h
    ·exact jf _ _ _ h
   ·exact jf _ _ _ h
theorem zgY(M:Mc)(s:Cr)(h:0<=s.bck):0<=(start M s).bck:=by
 unfold start
 simp only[]
 refine za5 (staS M) (fun s q h=>?_) _ _ (by split<;>exact h)
 unfold staS
 split
 ·exact h
 ·unfold sta1
  split
  ·exact h
  ·exact jf _ _ _ h
theorem zja{M:Mc}{h0:Hs}{s:Cr}(G:Good M h0 s)(hc:s.coms.length<100):1<=min s.wide (left {s with cyc:=s.cyc+1}):=by
 have h1:=G.wide
 have h2:=G.cyc
 unfold left
 simp only[]
 omega
theorem zjb{M:Mc}{h0:Hs}{s t:Cr}(h:Ref M h0 s)(k:Keep s t):Ref M h0 t:=by
 obtain⟨a,b,c⟩:=h
 refine⟨?_,?_,?_⟩
 ·rw[k.R,k.pc,k.st,k.ca,k.f,k.n,k.coms];exact a
 ·rw[k.n,k.coms];exact b
 ·rw[k.n,k.coms];exact c
theorem kU{M:Mc}(hM:MOk M){h0:Hs}{s:Cr}(G:Good M h0 s)(hs:s.st=0)(hc6:s.cyc<6000):Good M h0 (cycle M s)/\(cycle M s).cyc=s.cyc+1/\(cycle M s).wide=s.wide/\(cycle M s).n=s.n:=by
 obtain⟨m,I⟩:=G.inv hs
 obtain⟨s0,hs0⟩:∃s0:Cr,s0={s with cyc:=s.cyc+1}:=⟨_,rfl⟩
 have I0:Inv M s0 m:=by rw[hs0];exact⟨I.base,I.ch,I.reg,I.en,I.dis,I.cnt,I.rise,I.low,I.slo,I.ask,I.lat⟩
 have R0:Ref M h0 s0:=by rw[hs0];exact⟨G.ref.is,G.ref.coms,G.ref.runs⟩
 have hst0:s0.st=0:=by rw[hs0];exact hs
 obtain⟨k,hk⟩:∃k,k=qT s0.slots (min s0.wide (left s0)).toNat:=⟨_,rfl⟩
 have hcom:commit M s0=comN M k s0:=by rw[hk];rfl
 have hkl:=yD s0.slots (min s0.wide (left s0)).toNat
 rw[<-hk]at hkl
 have hkd:∀o∈s0.under.take k,o.st=2:=by rw[hk,I0.slo];exact xv _ _
 obtain⟨c1,c2,c3,c4⟩:=za3 hM k s0 m I0 hst0 R0 (by rw[I0.slo]at hkl;simpa using hkl.2) hkd
 have hcyc:(comN M k s0).cyc=s.cyc+1:=by rw[c4.cyc,hs0]
 have hwide:(comN M k s0).wide=s.wide:=by rw[c4.wide,hs0]
 have hn:(comN M k s0).n=s.n:=by rw[c4.n,hs0]
 have hlen:(comN M k s0).coms.length=s.coms.length+k:=by rw[c2,hs0]
 have htak:0<=(comN M k s0).tak:=by rw[c4.tak,hs0];exact G.tak
 have hbck:0<=(comN M k s0).bck:=by rw[c4.bck,hs0];exact G.bck
 have hwin:1<=(comN M k s0).win:=by rw[c4.win,hs0];exact G.win
 have hphys:33<=(comN M k s0).phys:=by rw[c4.phys,hs0];exact G.phys
 have g1:=G.wide
 have g2:=G.cyc
 have g3:=G.many
 have hleft:left s0=2000-s.coms.length-(6000-(s.cyc+1))/30:=by rw[hs0];rfl
 have hw0:s0.wide=s.wide:=by rw[hs0]
 rw[hw0,hleft]at hkl
 have hmany:((s.coms.length+k:Nat):Int)<=(s.cyc+1)*s.wide:=by
  have:(s.cyc+1)*s.wide=s.cyc*s.wide+s.wide:=by rw[Int.add_mul,Int.one_mul]
  omega
 have g5:=G.most
 have hmost:((s.coms.length+k:Nat):Int)<=2000:=by omega
 have hgoes:100<=s.coms.length+k\/s.cyc+1<=13*(s.coms.length+k:Nat)+12\/k=0:=by
  rcases G.goes with h|h
  ·exact .inl (by omega)
  ·by_cases hk0:k=0
   ·exact .inr (.inr hk0)
   ·exact .inr (.inl (by omega))
 unfold cycle
 simp only[]
 rw[<-hs0,hcom]
 split
 ·rename_i hrun
  obtain⟨m',I'⟩:=c3 hrun
  obtain⟨a1,a2,a3,a4,a5,a6⟩:=zea hM I'
  obtain⟨b1,b2,b3,b4,b5⟩:=zbU hM a1 (by rw[a2.wide,hwide];exact g1)
  have hkeep1:Keep (comN M k s0) (start M (load (comN M k s0))):=a2.keep.trans b2.keep
  have htk:0<=(start M (load (comN M k s0))).tak:=by rw[b2.tak,a2.tak];exact htak
  obtain⟨d1,d2,d3,d4,d5⟩:=za4 hM s.wide.toNat (start M (load (comN M k s0))) m' b1 htk
  have hkeep:=hkeep1.trans d2
  obtain⟨T,hT⟩:∃T,T=takN M s.wide.toNat (start M (load (comN M k s0))):=⟨_,rfl⟩
  rw[<-hT]at d1 d2 d3 d4 d5 hkeep⊢
  have hTc:T.coms.length=s.coms.length+k:=by rw[hkeep.coms,hlen]
  have hTb:0<=T.bck:=by rw[d4];exact zgY M _ (zi9 _ hbck)
  have key:100<=s.coms.length+k\/∃h l,T.under=h::l/\s.cyc+1<=13*(s.coms.length+k:Nat)+13-mu h:=by
   by_cases h100:100<=s.coms.length+k
   ·exact .inl h100
   right
   cases hu:(comN M k s0).under with
   |nil=>
    have hu2:(start M (load (comN M k s0))).under=[]:=b4 (a5 hu)
    obtain⟨h,l,e1,e2⟩:=ze7 hM (k:=s.wide.toNat) (by omega) b1 htk hu2 (by rw[b2.win,a2.win];exact hwin) (by rw[b2.phys,a2.phys];exact hphys)
    rw[<-hT]at e1
    refine⟨h,l,e1,?_⟩
    by_cases hk0:k=0
    ·rcases G.first hs with g|⟨_,g⟩|⟨x,y,g,_⟩
     ·omega
     ·omega
     ·have:(comN M k s0).under=s.under:=by rw[hk0,jm,hs0]
      rw[this,g]at hu
      cases hu
    ·have:=G.goes;omega
   |cons h l=>
    obtain⟨h1,l1,e1,e2,e3⟩:=a6 h l hu
    obtain⟨h2,l2,e4,e5,e6⟩:=b5 h1 l1 e1
    obtain⟨l3,e7⟩:=d5 h2 l2 e4
    have r2:=zkk d1 (h:=h2) (by rw[e7];simp)
    refine⟨h2,l3,e7,?_⟩
    by_cases hk0:k=0
    ·have hsu:(comN M k s0).under=s.under:=by rw[hk0,jm,hs0]
     rw[hsu]at hu
     rcases G.first hs with g|⟨g,_⟩|⟨x,y,g,g'⟩
     ·omega
     ·rw[g]at hu;cases hu
     ·have hxh:x=h/\y=l:=by rw[g]at hu;simpa using hu
      obtain⟨rfl,rfl⟩:=hxh
      have hne2:x.st≠2:=fun h2'=>by
       have hp:=zja G (by omega)
       have:0<qT s0.slots (min s0.wide (left s0)).toNat:=by
        rw[I0.slo,show s0.under=x::y by rw[hs0];exact g]
        refine zcX h2' ?_
        rw[<-hs0,show s.wide=s0.wide by rw[hs0]]at hp
        omega
       omega
      have hloc:=(show Loc M s.n s.wd s.th s.pc m s.f x from(by have:=I.ch;rw[g]at this;exact this.1))
      have hlt:mu h2<mu x:=by
       rcases hloc.sta with h0'|⟨h1',_⟩|h2'
       ·have:=e2 (by omega)
        subst this
        exact e6 h0'
       ·have l1':=e3 h1'
        by_cases h0':h1.st=0
        ·have:=e6 h0';omega
        ·rw[e5 h0'];exact l1'
       ·exact absurd h2' hne2
      omega
    ·have:=G.goes;omega
  refine⟨⟨zjb c1 hkeep,fun _=>⟨m',d1⟩,d3,hTb,?_,?_,?_,?_,?_,?_,?_,fun _=>?_⟩,?_,?_,?_⟩
  ·rw[hkeep.cyc,hcyc];omega
  ·rw[hkeep.win];exact hwin
  ·rw[hkeep.phys];exact hphys
  ·rw[hkeep.wide,hwide];exact g1
  ·rw[hTc,hkeep.cyc,hkeep.wide,hcyc,hwide];exact hmany
  ·rw[hTc];exact hmost
  ·rw[hTc,hkeep.cyc,hcyc]
   rcases key with h|⟨h,l,e,h'⟩
   ·exact .inl h
   ·have:=zkk d1 (h:=h) (by rw[e];simp)
    exact .inr (by omega)
  ·rw[hTc,hkeep.cyc,hcyc]
   rcases key with h|h
   ·exact .inl h
   ·exact .inr (.inr h)
  ·rw[hkeep.cyc,hcyc]
  ·rw[hkeep.wide,hwide]
  ·rw[hkeep.n,hn]
 ·rename_i hrun
  have hk0:k≠0:=fun h=>by
   apply hrun
   rw[h,jm]
   exact hst0
  refine⟨⟨c1,fun h=>absurd h hrun,htak,hbck,by rw[hcyc];omega,hwin,hphys,by rw[hwide];exact g1,by rw[hlen,hcyc,hwide];exact hmany,by rw[hlen];exact hmost,?_,fun h=>absurd h hrun⟩,hcyc,hwide,hn⟩
  rw[hlen,hcyc]
  rcases hgoes with h|h|h
  ·exact .inl h
  ·exact .inr h
  ·exact absurd h hk0
theorem zbX{M:Mc}(hM:MOk M){h0:Hs}:∀(k:Nat) (s:Cr),Good M h0 s->s.cyc+k<=6000->Good M h0 (runN M k s)/\(runN M k s).cyc<=s.cyc+k/\((runN M k s).st=0->(runN M k s).cyc=s.cyc+k)/\(runN M k s).wide=s.wide/\(runN M k s).n=s.n
 |0,s,G,_=>⟨G,by show s.cyc<=_;omega,fun _=>by show s.cyc=_;omega,rfl,rfl⟩
 |k+1,s,G,h=>by
  unfold runN
  by_cases hs:s.st=0
  ·rw[if_pos hs]
   obtain⟨G',e1,e2,e3⟩:=kU hM G hs (by omega)
   obtain⟨f1,f2,f3,f4,f5⟩:=zbX hM k (cycle M s) G' (by rw[e1];omega)
   exact⟨f1,by rw[e1]at f2;omega,fun h=>by rw[f3 h,e1];omega,f4.trans e2,f5.trans e3⟩
  ·rw[if_neg hs]
   exact⟨G,by omega,fun h=>absurd h hs,rfl,rfl⟩
theorem zas{M:Mc}(win phys wide:Int)(n:Nat)(R:Nat->Int)(pc st ca:Int)(f:Nat->Int)(scr:List Int)(hw:1<=win)(hp:33<=phys)(hp2:phys<=96)(hwi:1<=wide):Good M ⟨R,pc,st,ca,f⟩ (begin win phys wide n R pc st ca f scr):=by
 refine⟨⟨rfl,rfl,fun j hj=>absurd hj (by show¬j<0;omega)⟩,fun _=>⟨fun i=>i,?_⟩,Ap 0,Ap 0,Ap 0,hw,hp,hwi,?_,?_,.inr ?_,fun _=>.inr (.inl ⟨rfl,rfl⟩)⟩
 ·refine⟨fun r hr=>?_,trivial,rfl,.inl ⟨rfl,rfl,(fun o h=>by cases h)⟩,⟨fun r r' _ _ e=>by omega,?_,fun r hr hm=>?_,fun r hr=>by show 0<=(r:Int)/\(r:Int)<phys;omega,fun x hx=>?_⟩,?_,by simp[Rise,begin],(fun o h=>by cases h),rfl,⟨(fun q h=>by cases h),(fun o h=>by cases h),(fun o h=>by cases h),(fun o h=>by cases h)⟩,(fun o h=>by cases h)⟩
  ·show decide ((r:Int)<32)=true/\(if(r:Int)<32 then R (r:Int).toNat else 0)=R r
   refine⟨decide_eq_true (by omega),?_⟩
   rw[if_pos (by omega)]
   simp
  ·show((Ah (phys.toNat-32)).map (fun i:Nat=>32+(i:Int))).Nodup
   exact(List.nodup_range.map _ (fun a b hab e=>hab (by omega)))
  ·have hm:(r:Int)∈(Ah (phys.toNat-32)).map (fun i:Nat=>32+(i:Int)):=hm
   obtain⟨i,_,e⟩:=Al.1 hm
   omega
  ·have hx:x∈(Ah (phys.toNat-32)).map (fun i:Nat=>32+(i:Int)):=hx
   obtain⟨i,hi,e⟩:=Al.1 hx
   have:=List.mem_range.1 hi
   show 0<=x/\x<phys
   omega
  ·show 32+((([]:List Int)++(Ah (phys.toNat-32)).map (fun i:Nat=>32+(i:Int))).length:Int)=phys
   simp
   omega
 ·show((0:Nat):Int)<=0*wide
  simp
 ·show((0:Nat):Int)<=2000
  omega
 ·show(0:Int)<=13*((0:Nat):Int)+12
  omega
end Go.Proofs.YtpiohehijkpghacGreatDoor.Co
namespace Go.Proofs.YtpiohehijkpghacGreatDoor
open Go.RowKit
open Hy
attribute [local go_sem ↓] Go.wp_at_zero Go.wp_at_succ
theorem yE(p0 p1 p2:Int)(h0:0<=p1)(h1:p1<=31)(w:World):
  Calls prog 101 #[.agg #[.int .u32 p0,.int .u32 p1,.int .u32 p2]] w fun e w'=>e=.returned (.int .u32 (msk p1))/\Below w.heap.size w w':=by
 go_enter func101,ntmps101
 go_wp2
 go_ret
 exact⟨rfl,(Ar _ _).alloc (Aj _) _⟩
structure TB(f:Int)(B:Nat)(bs:Int)(w wl:World):Prop where
 c0:wl.cell? ⟨B+1+1,0,none⟩=some (.int .i64 f)
 c1:wl.cell? ⟨B+1+1,1,none⟩=some (.int .u32 bs)
 b0:wl.cell? ⟨B+1,0,none⟩=some (.int .u32 0)
 b1:wl.cell? ⟨B+1,1,none⟩=some (.int .u32 12)
 b2:wl.cell? ⟨B+1,2,none⟩=some (.int .u32 25)
 r0:wl.cell? ⟨B,0,none⟩=some (.int .i64 0)
 r1:wl.cell? ⟨B,1,none⟩=some (.int .u32 0)
 z0:wl.frozen? ⟨B,0,none⟩=false
 z1:wl.frozen? ⟨B,1,none⟩=false
 z2:wl.frozen? ⟨B+1+1,1,none⟩=false
 be:Below B w wl
theorem zlm{f:Int}{B:Nat}{T V V':Int}{w wr:World}(hV:V=V')
  (c0:wr.cell? ⟨B+1+1,0,none⟩=some (.int .i64 f))
  (c1:wr.cell? ⟨B+1+1,1,none⟩=some (.int .u32 T))
  (b0:wr.cell? ⟨B+1,0,none⟩=some (.int .u32 0))
  (b1:wr.cell? ⟨B+1,1,none⟩=some (.int .u32 12))
  (b2:wr.cell? ⟨B+1,2,none⟩=some (.int .u32 25))
  (r0:wr.cell? ⟨B,0,none⟩=some (.int .i64 0))
  (r1:wr.cell? ⟨B,1,none⟩=some (.int .u32 0))
  (z0:wr.frozen? ⟨B,0,none⟩=false)
  (z1:wr.frozen? ⟨B,1,none⟩=false)
  (z2:wr.frozen? ⟨B+1+1,1,none⟩=false)
  (be:Below B w wr):
  TB f B (bits .or .u32 T V') w (wr.setCell ⟨B+1+1,1,none⟩ (.int .u32 (bits .or .u32 T V))).drew:=by
 subst hV
 refine⟨?_,?_,?_,?_,?_,?_,?_,?_,?_,?_,(be.setCell (by simp;omega) _).drew⟩
 all_goals simp[go_sem, *]
theorem ze9(n:Nat)(hn:n<=3)(f:Int)(b:Nat)(ps:Nat->Int)(w:World)(hb:b<w.heap.size)
  (hc:∀j:Nat,j<n->w.cell? ⟨b,j,none⟩=some (.int .u32 (ps j))):
  Calls prog 68 #[.int .i64 f,.slice (some ⟨b,0,none⟩) n n] w fun e w'=>e=.returned (.agg #[.int .i64 f,.int .u32 (tb ps n)])/\Below w.heap.size w w':=by
 go_enter func68,ntmps68
 go_wp2
 go_loopw [7,8,14] (fun i p k wl=>∃j:Nat,j<=n/\k=.int .i64 j/\TB f w.heap.size (tb ps j) w wl) (fun _ _ k _=>n-(intOf k).toNat)
 case atStart=>
  refine⟨0,Nat.zero_le _,rfl,⟨?_,?_,?_,?_,?_,?_,?_,?_,?_,?_,?_⟩⟩
  all_goals try simp[go_sem,tb]
  exact(((Ar _ _).alloc (Aj _) _).alloc (by simp) _).alloc (by simp;omega) _
 case round=>
  obtain⟨j,hj,rfl,hT⟩:=hrel
  have c0:=hT.c0
  have c1:=hT.c1
  have b0:=hT.b0
  have b1:=hT.b1
  have b2:=hT.b2
  have r0:=hT.r0
  have r1:=hT.r1
  have z0:=hT.z0
  have z1:=hT.z1
  have z2:=hT.z2
  by_cases hlt:j<n
  ·have hx:wr.cell? ⟨b,j,none⟩=some (.int .u32 (ps j)):=(hT.be.cell (p:=⟨b,j,none⟩) hb).trans (hc j hlt)
   have hj3:j=0\/j=1\/j=2:=by omega
   obtain⟨T,hTb⟩:∃T,T=tb ps j:=⟨_,rfl⟩
   have HT:Hid (T=tb ps j):=hTb
   rw[<-hTb]at c1
   have hbe:=hT.be
   clear hc hTb hT
   rcases hj3 with rfl|rfl|rfl
   all_goals
    go_wp2_with fail
    go_region
    go_wp2
    refine⟨⟨_,hlt,by go_num,?_⟩,by simp[intOf];omega⟩
    rw[tb,<-HT.out]
    exact zlm (by simp[beg]) c0 c1 b0 b1 b2 r0 r1 z0 z1 z2 hbe
  ·obtain rfl:j=n:=by omega
   go_wp2
   exact bodyPost_ret (v:=.agg #[.int .i64 f,.int .u32 (tb ps j)]) (by simp[results,results68,go_sem,r0,r1]) rfl ⟨rfl,(hT.be.setCell (Aj _) _).setCell (Aj _) _⟩
end Go.Proofs.YtpiohehijkpghacGreatDoor
namespace Go.Proofs.YtpiohehijkpghacGreatDoor
open Go.RowKit
open Hy
abbrev hcs(R:Nat->Int)(pc st ca:Int):Array Value:=#[.int .u32 (R 0),.int .u32 (R 1),.int .u32 (R 2),.int .u32 (R 3),.int .u32 (R 4),.int .u32 (R 5),.int .u32 (R 6),.int .u32 (R 7),.int .u32 (R 8),.int .u32 (R 9),.int .u32 (R 10),.int .u32 (R 11),.int .u32 (R 12),.int .u32 (R 13),.int .u32 (R 14),.int .u32 (R 15),.int .u32 (R 16),.int .u32 (R 17),.int .u32 (R 18),.int .u32 (R 19),.int .u32 (R 20),.int .u32 (R 21),.int .u32 (R 22),.int .u32 (R 23),.int .u32 (R 24),.int .u32 (R 25),.int .u32 (R 26),.int .u32 (R 27),.int .u32 (R 28),.int .u32 (R 29),.int .u32 (R 30),.int .u32 (R 31),.int .u32 pc,.int .i64 st,.int .i64 ca]
abbrev hv(R:Nat->Int)(pc st ca:Int):Value:=.agg (hcs R pc st ca)
def may(R:Nat->Int)(st ca:Int):Bool:=R 0==0&&(((st==0||st==1)&&ca==0)||(st==2&&decide (1<=ca)&&decide (ca<=6)))
abbrev ccs(pc next st ca rd val at_ many data:Int)(out:Bool)(told:Int):Array Value:=#[.int .u32 pc,.int .u32 next,.int .i64 st,.int .i64 ca,.int .i64 rd,.int .u32 val,.int .u32 at_,.int .i64 many,.int .u32 data,.bool out,.int .u32 told]
abbrev cv(pc next st ca rd val at_ many data:Int)(out:Bool)(told:Int):Value:=.agg (ccs pc next st ca rd val at_ many data out told)
theorem zp:(prog.info? 27).map (·.size)=some 35:=by kernel_rfl
theorem za:(prog.info? 68).map (·.size)=some 11:=by kernel_rfl
theorem qC{P:Program}{ops:Array Oper}{rest:List Oper}{o:Oper}{a:Act}{w:World}{Q:Exit->Act->World->Prop}(hg:o.guard=none)(t:TypeId)(parts:Array (Nat×Operand))(ho:o.op=.build t parts)(cells:Array Value)
  (hb:P.built t (parts.map fun(i,x)=>(i,a.eval x)).toList=some cells)
  (h:wpList P ops Q rest (a.put o.dst (.agg cells)) w):wpList P ops Q (o::rest) a w:=
 wpList_build hg t parts ho (by rw[hb];rfl) (by rw[hb];exact h)
def Ones(H:Array Value):Prop:=H.all (·.oneCell')=true
theorem Ones.set{H:Array Value}(h:Ones H)(i:Nat)(v:Value)(hv:v.oneCell'=true):Ones (H.setIfInBounds i v):=by
 unfold Ones at*
 rw[Array.all_eq_true_iff_forall_mem]at*
 intro x hx
 obtain⟨j,hj,e⟩:=Array.getElem_of_mem hx
 have hj':j<H.size:=by simpa using hj
 rw[Array.getElem_setIfInBounds hj']at e
 split at e
 ·rw[<-e];exact hv
 ·rw[<-e];exact h _ (Array.getElem_mem hj')
theorem zc{B:Nat}{a w:World}(h:Below B a w){g:Nat}(hg:B<=g)(cs:Array Value):Below B a (w.setRow g cs):=
 ⟨h.os,h.tape,h.output,by simpa using h.size,fun k hk=>(setRow_other _ _ _ _ (by omega)).trans (h.block k hk)⟩
theorem qq(pc next st ca rd val at_ many data:Int)(out:Bool)(told:Int):Ones (ccs pc next st ca rd val at_ many data out told):=by unfold Ones;simp[Value.oneCell']
end Go.Proofs.YtpiohehijkpghacGreatDoor
namespace Go.Proofs.YtpiohehijkpghacGreatDoor
open Go.RowKit
open Hy
attribute [local go_sem ↓] Go.wp_at_zero Go.wp_at_succ
theorem bcell{W w1:World}{B:Nat}(hb:Below B W w1):(∀b o,b<B->w1.cell? ⟨b,o,none⟩=W.cell? ⟨b,o,none⟩)/\(∀b o,b<B->w1.frozen? ⟨b,o,none⟩=W.frozen? ⟨b,o,none⟩):=
 ⟨fun b o h=>hb.cell (p:=⟨b,o,none⟩) h,fun b o h=>hb.frozen (p:=⟨b,o,none⟩) h⟩
abbrev fv(c:Nat->Int):Value:=.agg #[.int .u32 (c 0),.int .u32 (c 1),.int .u32 (c 2),.int .u32 (c 3),.int .u32 (c 4),.int .u32 (c 5),.int .u32 (c 6),.int .u32 (c 7),.int .u32 (c 8),.int .u32 (c 9),.int .u32 (c 10),.int .u32 (c 11),.int .u32 (c 12),.int .u32 (c 13),.int .u32 (c 14),.int .u32 (c 15),.int .u32 (c 16)]
abbrev pcs(c:Nat->Int):Value:=.agg #[.int .u32 (c 5),.int .u32 (c 6),.int .u32 (c 7),.int .u32 (c 8),.int .u32 (c 9),.int .u32 (c 10),.int .u32 (c 11),.int .u32 (c 12),.int .u32 (c 13),.int .u32 (c 14),.int .u32 (c 15),.int .u32 (c 16)]
theorem ix0(c:Nat->Int)(w:World):(Aq 111 (pcs c) (.int .i64 0)).run prog w=.ok (.agg #[.int .u32 (c 5),.int .u32 (c 6),.int .u32 (c 7)]) w:=by kernel_rfl
theorem ix1(c:Nat->Int)(w:World):(Aq 111 (pcs c) (.int .i64 1)).run prog w=.ok (.agg #[.int .u32 (c 8),.int .u32 (c 9),.int .u32 (c 10)]) w:=by kernel_rfl
theorem ix2(c:Nat->Int)(w:World):(Aq 111 (pcs c) (.int .i64 2)).run prog w=.ok (.agg #[.int .u32 (c 11),.int .u32 (c 12),.int .u32 (c 13)]) w:=by kernel_rfl
theorem ix3(c:Nat->Int)(w:World):(Aq 111 (pcs c) (.int .i64 3)).run prog w=.ok (.agg #[.int .u32 (c 14),.int .u32 (c 15),.int .u32 (c 16)]) w:=by kernel_rfl
theorem zcY(c:Nat->Int)(x:Int)(x0:0<=x)(x1:x<=4294967295)
  (hb:∀j,1<=j->0<=c j/\c j<=31) (w:World):
  Calls prog 69 #[fv c,.int .u32 x] w fun e w'=>e=.returned (.int .i32 (rim c x))/\Below w.heap.size w w':=by
 have i0:=ix0 c
 have i1:=ix1 c
 have i2:=ix2 c
 have i3:=ix3 c
 go_enter func69,ntmps69
 go_wp2
 go_loopw [5,7,10] (fun b p k wl=>∃j:Nat,j<=4/\k=.int .i64 j/\b=.int .u32 (ib c x j)/\Below (w.heap.size+1) (w.alloc (.cells #[.int .u32 (c 0),.int .u32 (c 1),.int .u32 (c 2),.int .u32 (c 3),.int .u32 (c 4),.int .u32 (c 5),.int .u32 (c 6),.int .u32 (c 7),.int .u32 (c 8),.int .u32 (c 9),.int .u32 (c 10),.int .u32 (c 11),.int .u32 (c 12),.int .u32 (c 13),.int .u32 (c 14),.int .u32 (c 15),.int .u32 (c 16)] 113)) wl/\w.heap.size<wl.heap.size) (fun _ _ k _=>4-(intOf k).toNat)
 case atStart=>exact⟨0,by omega,rfl,rfl,Ar _ _,by simp⟩
 case round=>
  obtain⟨j,hj,rfl,rfl,hbe,hsz⟩:=hrel
  obtain⟨T,hTb⟩:∃T,T=ib c x j:=⟨_,rfl⟩
  have HT:Hid (T=ib c x j):=hTb
  rw[<-hTb]
  clear hTb
  by_cases hlt:j<4
  ·have hj3:j=0\/j=1\/j=2\/j=3:=by omega
   rcases hj3 with rfl|rfl|rfl|rfl
   ·obtain⟨h00,h01⟩:0<=c 6/\c 6<=31:=hb 6 (by omega)
    have hbe2:=hbe.alloc hsz (.cells #[.int .u32 (c 5),.int .u32 (c 6),.int .u32 (c 7)] 110)
    go_wp2_with fail
    go_region_held3 (fun w'=>w'.cell? ⟨wr.heap.size,0,none⟩=some (.int .u32 (c 5))/\w'.cell? ⟨wr.heap.size,1,none⟩=some (.int .u32 (c 6))/\w'.cell? ⟨wr.heap.size,2,none⟩=some (.int .u32 (c 7))) (first|go_keep|(obtain⟨hc,hf⟩:=bcell hk;refine⟨?_,?_,?_⟩<;>(rw[hc _ _ (by simp)];go_keep))) ((go_at_call 101;refine(yE _ _ _ ?_ ?_ _).mono ?_;(iterate 2 omega);rintro e w' ⟨rfl,hk⟩))
    replace hbe2:=hbe2.drew.trans (hk.mono (B':=w.heap.size+1) (by simp;omega))
    have hs:=hk.size
    simp at hs
    go_wp2
    refine⟨⟨1,by omega,by go_num,?_,hbe2,by omega⟩,by simp[intOf]⟩
    rw[ib,<-HT.out];rfl
   ·obtain⟨h00,h01⟩:0<=c 9/\c 9<=31:=hb 9 (by omega)
    have hbe2:=hbe.alloc hsz (.cells #[.int .u32 (c 8),.int .u32 (c 9),.int .u32 (c 10)] 110)
    go_wp2_with fail
    go_region_held3 (fun w'=>w'.cell? ⟨wr.heap.size,0,none⟩=some (.int .u32 (c 8))/\w'.cell? ⟨wr.heap.size,1,none⟩=some (.int .u32 (c 9))/\w'.cell? ⟨wr.heap.size,2,none⟩=some (.int .u32 (c 10))) (first|go_keep|(obtain⟨hc,hf⟩:=bcell hk;refine⟨?_,?_,?_⟩<;>(rw[hc _ _ (by simp)];go_keep))) ((go_at_call 101;refine(yE _ _ _ ?_ ?_ _).mono ?_;(iterate 2 omega);rintro e w' ⟨rfl,hk⟩))
    replace hbe2:=hbe2.drew.trans (hk.mono (B':=w.heap.size+1) (by simp;omega))
    have hs:=hk.size
    simp at hs
    go_wp2
    refine⟨⟨2,by omega,by go_num,?_,hbe2,by omega⟩,by simp[intOf]⟩
    rw[ib,<-HT.out];rfl
   ·obtain⟨h00,h01⟩:0<=c 12/\c 12<=31:=hb 12 (by omega)
    have hbe2:=hbe.alloc hsz (.cells #[.int .u32 (c 11),.int .u32 (c 12),.int .u32 (c 13)] 110)
    go_wp2_with fail
    go_region_held3 (fun w'=>w'.cell? ⟨wr.heap.size,0,none⟩=some (.int .u32 (c 11))/\w'.cell? ⟨wr.heap.size,1,none⟩=some (.int .u32 (c 12))/\w'.cell? ⟨wr.heap.size,2,none⟩=some (.int .u32 (c 13))) (first|go_keep|(obtain⟨hc,hf⟩:=bcell hk;refine⟨?_,?_,?_⟩<;>(rw[hc _ _ (by simp)];go_keep))) ((go_at_call 101;refine(yE _ _ _ ?_ ?_ _).mono ?_;(iterate 2 omega);rintro e w' ⟨rfl,hk⟩))
    replace hbe2:=hbe2.drew.trans (hk.mono (B':=w.heap.size+1) (by simp;omega))
    have hs:=hk.size
    simp at hs
    go_wp2
    refine⟨⟨3,by omega,by go_num,?_,hbe2,by omega⟩,by simp[intOf]⟩
    rw[ib,<-HT.out];rfl
   ·obtain⟨h00,h01⟩:0<=c 15/\c 15<=31:=hb 15 (by omega)
    have hbe2:=hbe.alloc hsz (.cells #[.int .u32 (c 14),.int .u32 (c 15),.int .u32 (c 16)] 110)
    go_wp2_with fail
    go_region_held3 (fun w'=>w'.cell? ⟨wr.heap.size,0,none⟩=some (.int .u32 (c 14))/\w'.cell? ⟨wr.heap.size,1,none⟩=some (.int .u32 (c 15))/\w'.cell? ⟨wr.heap.size,2,none⟩=some (.int .u32 (c 16))) (first|go_keep|(obtain⟨hc,hf⟩:=bcell hk;refine⟨?_,?_,?_⟩<;>(rw[hc _ _ (by simp)];go_keep))) ((go_at_call 101;refine(yE _ _ _ ?_ ?_ _).mono ?_;(iterate 2 omega);rintro e w' ⟨rfl,hk⟩))
    replace hbe2:=hbe2.drew.trans (hk.mono (B':=w.heap.size+1) (by simp;omega))
    have hs:=hk.size
    simp at hs
    go_wp2
    refine⟨⟨4,by omega,by go_num,?_,hbe2,by omega⟩,by simp[intOf]⟩
    rw[ib,<-HT.out];rfl
  ·obtain rfl:j=4:=by omega
   obtain⟨h00,h01⟩:0<=c 4/\c 4<=31:=hb 4 (by omega)
   obtain⟨hc,hf⟩:=bcell hbe
   have h4:wr.cell? ⟨w.heap.size,4,none⟩=some (.int .u32 (c 4)):=by rw[hc _ _ (by omega)];simp[go_sem]
   clear hc hf
   go_wp2
   go_ret
   exact⟨by rw[HT.out];rfl,((Ar _ _).alloc (Aj _) _).trans (hbe.mono (by omega))⟩
abbrev iv(op rd rs1 rs2 imm:Int):Value:=.agg #[.int .i64 op,.int .i64 rd,.int .i64 rs1,.int .i64 rs2,.int .i32 imm]
end Go.Proofs.YtpiohehijkpghacGreatDoor
