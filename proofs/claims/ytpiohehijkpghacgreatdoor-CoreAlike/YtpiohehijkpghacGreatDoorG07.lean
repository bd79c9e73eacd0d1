/- What is committed is what one does that takes one instruction after the other; and it goes on. Plain mathematics. -/
import Derived.Test.YtpiohehijkpghacGreatDoorG06
namespace Go.Proofs.YtpiohehijkpghacGreatDoor.Co
open Go.RowKit
open Hy
open Wi Od Re.Hy
open Gu.Hy (Tb)
set_option linter.unusedVariables false
set_option linter.unusedSimpArgs false
theorem inv_scr {M:Mc} {s:Cr} {m:Nat→Int} (I:Inv M s m) (k:List Int):Inv M {s with scr:=k} m:=
 ⟨I.base,I.ch,I.reg,I.en,I.dis,I.cnt,I.rise,I.low,I.slo,I.ask,I.lat⟩
theorem same_scr (s:Cr) (k:List Int):Same s {s with scr:=k}:=⟨rfl,rfl,rfl,rfl,rfl,rfl,rfl,rfl,rfl,rfl,rfl,rfl⟩
theorem turn_mem {s:Cr} {l:List Int} {q:Int}:q∈turn s l↔q∈l:=by
 unfold turn
 cases l with
 |nil=>simp
 |cons x r=>simp only[];split<;>simp
theorem turn_nodup {s:Cr} {l:List Int} (h:l.Nodup):(turn s l).Nodup:=by
 unfold turn
 cases l with
 |nil=>simp
 |cons x r=>
  obtain⟨h1,h2⟩:=List.nodup_cons.1 h
  simp only[]
  split
  ·exact List.nodup_cons.2 ⟨by simpa using h1,by unfold List.Nodup at*;rw[List.pairwise_reverse];exact h2.imp fun h=>h.symm⟩
  ·exact h
theorem turn_head {s:Cr} {x:Int} {r:List Int}:∃r',turn s (x::r)=x::r':=by
 unfold turn
 simp only[]
 split
 ·exact⟨_,rfl⟩
 ·exact⟨_,rfl⟩
theorem start_inv {M:Mc} (hM:MOk M) {s:Cr} {m:Nat→Int} (I:Inv M s m) (hw:1≤s.wide):
  Inv M (start M s) m∧Same s (start M s)∧(start M s).tb=s.tb∧(s.under=[]→(start M s).under=[])∧∀h l,s.under=h::l→∃h' l',(start M s).under=h'::l'∧(h.st≠0→h'=h)∧(h.st=0→mu h'<mu h):=by
 have F:=fold_inv (M:=M) (fun s o=>o.st=0∧s.th o.a=true∧s.th o.b=true) (staS M) (fun s m l1 l2 o I hu h1=>by
   have e:staS M s o.seq=sta1 M s o:=by unfold staS;rw[hu,find_at (hu▸I.rise)]
   obtain⟨g1,o',g2,g3,_⟩:=sta1_inv hM I hu h1.1 h1.2
   rw[e]
   exact⟨g1,o',g2,g3⟩) (fun s q h=>by unfold staS;rw[h]) (fun s t o ht h=>⟨h.1,ht _ h.2.1,ht _ h.2.2⟩)
 obtain⟨s1,hs1⟩:∃s1,s1=if 1<(ready s).length then chS s else s:=⟨_,rfl⟩
 have hex:∃k,s1={s with scr:=k}:=by
  rw[hs1]
  split
  ·exact⟨_,rfl⟩
  ·exact⟨s.scr,rfl⟩
 obtain⟨k,hk⟩:=hex
 have I1:Inv M s1 m:=by rw[hk];exact inv_scr I k
 have hu1:s1.under=s.under:=by rw[hk]
 have hth1:s1.th=s.th:=by rw[hk]
 have hS1:Same s s1:=by rw[hk];exact same_scr s k
 have htb1:s1.tb=s.tb:=by rw[hk]
 obtain⟨qs,hqs⟩:∃qs,qs=(turn s (ready s)).take s.wide.toNat:=⟨_,rfl⟩
 have hst:start M s=qs.foldl (staS M) s1:=by rw[hqs,hs1];rfl
 have hn:qs.Nodup:=by rw[hqs];exact(turn_nodup (seqs_nodup I.rise _)).sublist (List.take_sublist _ _)
 have hP:∀q∈qs,∀o∈s1.under,o.seq=q→o.st=0∧s1.th o.a=true∧s1.th o.b=true:=fun q hq o ho e=>by
  rw[hqs]at hq
  have hq:=turn_mem.1 (List.mem_of_mem_take hq)
  unfold ready at hq
  obtain⟨p,hp,rfl⟩:=List.mem_map.1 hq
  obtain⟨hp1,hp2⟩:=List.mem_filter.1 hp
  rw[hu1]at ho
  rw[hth1,rise_one I.rise ho hp1 e]
  simp at hp2
  exact⟨hp2.1.1,hp2.1.2,hp2.2⟩
 obtain⟨g1,g2,g3,g4,g5,g6,g7⟩:=F qs s1 m I1 hn hP
 rw[hst]
 refine⟨g1,hS1.trans g2,g4.trans htb1,fun h=>g6 (hu1.trans h),fun h l e=>?_⟩
 have hloc:=ch_at (l1:=[]) (show Ch M s.n s.wd s.th s.pc m s.f ([]++h::l)from e▸I.ch)
 by_cases h0:h.st=0
 ·obtain⟨_,hra,hrb⟩:=loc_fld hM hloc
  have ha:s.th h.a=true:=by rw[hloc.a];exact(I.base _ hra).1
  have hb:s.th h.b=true:=by rw[hloc.b];exact(I.base _ hrb).1
  have hrd:∃r,ready s=h.seq::r:=by
   unfold ready
   rw[e,List.filter_cons_of_pos (by simp[h0,ha,hb])]
   exact⟨_,rfl⟩
  obtain⟨r,hr⟩:=hrd
  obtain⟨r',hr'⟩:=turn_head (s:=s) (x:=h.seq) (r:=r)
  obtain⟨w,hw'⟩:∃w,s.wide.toNat=w+1:=⟨s.wide.toNat-1,by omega⟩
  have hq:qs=h.seq::r'.take w:=by rw[hqs,hr,hr',hw',List.take_succ_cons]
  have e1:s1.under=[]++h::l:=hu1.trans e
  have hsta:staS M s1 h.seq=sta1 M s1 h:=by
   unfold staS
   rw[e1,find_at (show Rise ([]++h::l)from e▸I.rise)]
  obtain⟨I',o',S,k1,k2,k3⟩:=sta1_inv hM I1 e1 h0 (by rw[hth1];exact⟨ha,hb⟩)
  rw[←hsta]at I' S
  obtain⟨l2',l3,k4,k5⟩:=S.under
  rw[hq]at hn hP
  obtain⟨hn1,hn2⟩:=List.nodup_cons.1 hn
  obtain⟨_,_,_,_,_,_,f7⟩:=F _ (staS M s1 h.seq) m I' hn2 (fun q hq p hp hpq=>by
   have hpm:p∈s1.under:=by
    rw[k5]at hp
    rw[e1,k4]
    rcases List.mem_cons.1 hp with h'|h'
    ·rw[h',k1]at hpq;exact absurd hq (by rw[←hpq];exact hn1)
    ·exact List.mem_cons_of_mem _ (List.mem_append_left _ h')
   obtain⟨x1,x2,x3⟩:=hP q (List.mem_cons_of_mem _ hq) p hpm hpq
   exact⟨x1,S.thr _ x2,S.thr _ x3⟩)
  obtain⟨h',l',f1,f2,f3⟩:=f7 o' l2' (by rw[k5];rfl)
  refine⟨h',l',by rw[hq,List.foldl_cons];exact f1,fun h=>absurd h0 h,fun _=>?_⟩
  rw[f3 (by rw[k1];exact hn1)]
  have hlat:=I.lat h (by rw[e];simp)
  unfold mu
  rw[if_neg (by omega:¬h.st=2),if_neg (by omega:¬h.st=1),k2]
  rcases k3 with h2|h2
  ·rw[if_pos h2];omega
  ·rw[if_neg (by omega),if_pos h2];omega
 ·obtain⟨h',l',f1,f2,f3⟩:=g7 h l (hu1.trans e)
  refine⟨h',l',f1,fun _=>f3 (fun hm=>?_),fun h=>absurd h h0⟩
  exact h0 (hP _ hm h (by rw[hu1,e];simp) rfl).1
theorem inv_new {M:Mc} (hM:MOk M) {s:Cr} {m:Nat→Int} (I:Inv M s m) (ho:s.opn=true) {o:Dg} {wd:Int→Int} {th:Int→Bool} {regs:Nat→Int} {free:List Int} {A:List Ac} {scr:List Int} {fro:Int} {op:Bool} {t:Cr}
  (ht:t={s with slots:=s.slots++[slot o],under:=s.under++[o],tak:=s.tak+1,asked:=A,regs:=regs,free:=free,wd:=wd,th:=th,scr:=scr,fro:=fro,opn:=op})
  (hseq:o.seq=s.tak) (htak:0≤s.tak) (hL:Loc M s.n wd th (pE s.pc s.under) (mE m s.under) (fE s.f s.under) o)
  (hfree:s.free=(if o.rd=0 then[]else[o.to])++free) (hregs:regs=nm s.regs o)
  (hw:∀x,(o.rd≠0→x≠o.to)→wd x=s.wd x∧th x=s.th x)
  (hA:A=s.asked++(ownA o::if sts o.i then[st0 o.seq]else[])) (hst:o.st=0∨(o.st=2∧sts o.i=false∧ldn o.i.op=0))
  (hlat:0≤o.late∧o.late≤9)
  (hen:(op=true∧fro=nx o∧¬stp o)∨(op=false∧stp o)):Inv M t m:=by
 have hno:∀q∈s.under,¬stp q:=by
  rcases I.en with⟨_,_,h⟩|⟨h,_⟩
  ·exact h
  ·rw[ho]at h;cases h
 have htos:tos (s.under++[o])++free=tos s.under++s.free:=by
  rw[tos_app,hfree,tos_cons]
  split<;>simp[tos]
 have hfr:o.rd≠0→o.to∈s.free:=fun h=>by rw[hfree,if_neg h];simp
 have hd:=I.dis
 have hnm:∀r,r<32→o.rd≠0→m r≠o.to:=fun r hr h e=>hd.apart r hr (by rw[e];exact List.mem_append_right _ (hfr h))
 have hnt:o.rd≠0→o.to∉tos s.under:=fun h hm=>by
  have:=(List.nodup_append.1 hd.nod).2.2 _ hm _ (hfr h)
  exact this rfl
 have hM':∀q∈s.under,q.rd≠0→(o.rd≠0→q.to≠o.to):=fun q hq hr h e=>hnt h (e▸mem_tos hq hr)
 subst ht
 have hmem:∀q,q∈s.under++[o]→q∈s.under∨q=o:=fun q hq=>by
  rcases List.mem_append.1 hq with h|h
  ·exact .inl h
  ·exact .inr (List.mem_singleton.1 h)
 have hrd:∀q∈s.under,(wd q.a=s.wd q.a∧th q.a=s.th q.a)∧(wd q.b=s.wd q.b∧th q.b=s.th q.b):=fun q hq=>by
  obtain⟨l1,l2,e⟩:=List.append_of_mem hq
  have hc:=I.ch
  rw[e]at hc
  obtain⟨ha,hb⟩:=ch_reads hM hc
  have hsub:∀x,x∈tos l1→o.rd≠0→x≠o.to:=fun x hx h ex=>hnt h (by rw[e,tos_app,←ex];exact List.mem_append_left _ hx)
  refine⟨hw q.a fun h=>?_,hw q.b fun h=>?_⟩
  ·rcases ha with⟨r,hr,e2⟩|e2
   ·rw[e2];exact hnm r hr h
   ·exact hsub _ e2 h
  ·rcases hb with⟨r,hr,e2⟩|e2
   ·rw[e2];exact hnm r hr h
   ·exact hsub _ e2 h
 refine⟨fun r hr=>?_,?_,?_,?_,?_,?_,?_,?_,?_,?_,?_⟩
 ·obtain⟨e1,e2⟩:=hw (m r) (fun h=>hnm r hr h)
  show th (m r)=true∧wd (m r)=s.R r
  rw[e1,e2]
  exact I.base r hr
 ·show Ch M s.n wd th s.pc m s.f (s.under++[o])
  rw[ch_app]
  refine⟨ch_words I.ch (fun q hq=>⟨fun hs ha hb=>?_,fun h0=>?_⟩),fun _=>hno,hL,fun _=>rfl,trivial⟩
  ·obtain⟨⟨e1,e2⟩,e3,e4⟩:=hrd q hq
   rw[e1,e2,e3,e4]
   exact⟨ha,hb,rfl,rfl⟩
  ·obtain⟨e1,e2⟩:=hw q.to (hM' q hq h0)
   exact⟨e2,e1⟩
 ·show mE m (s.under++[o])=regs
  rw[mE_app,I.reg,hregs]
  rfl
 ·have hpE:pE s.pc (s.under++[o])=nx o:=by rw[pE_app];rfl
  rcases hen with⟨h1,h2,h3⟩|⟨h1,h2⟩
  ·left
   refine⟨h1,h2.trans hpE.symm,fun q hq=>?_⟩
   rcases hmem q hq with h|h
   ·exact hno q h
   ·rw[h];exact h3
  ·exact .inr ⟨h1,s.under,o,rfl,h2⟩
 ·show Dis s.phys m (tos (s.under++[o])++free)
  rw[htos]
  exact hd
 ·show 32+((tos (s.under++[o])++free).length:Int)=s.phys
  rw[htos]
  exact I.cnt
 ·show Rise (s.under++[o])
  rw[rise_app]
  refine⟨I.rise,by simp[Rise],fun q hq p hp=>?_⟩
  rw[List.mem_singleton.1 hp,hseq]
  exact(I.low q hq).2
 ·intro q hq
  show 0≤q.seq∧q.seq<s.tak+1
  rcases hmem q hq with h|h
  ·have:=I.low q h;omega
  ·rw[h,hseq];omega
 ·show s.slots++[slot o]=(s.under++[o]).map slot
  rw[I.slo,List.map_append]
  rfl
 ·show As s.n wd (s.under++[o]) A
  have hent:sts o.i=true→entA o=st0 o.seq:=fun h=>by
   unfold entA
   rcases hst with h'|⟨_,h',_⟩
   ·rw[if_neg (by omega)]
   ·rw[h]at h';cases h'
  have hold:∀a∈s.asked,a∈A:=fun a ha=>by rw[hA];exact List.mem_append_left _ ha
  refine⟨fun q hq=>?_,fun p hp=>?_,fun p hp h=>?_,fun p hp h1 h2 h3=>?_⟩
  ·rw[hA]at hq
   rcases List.mem_append.1 hq with h|h
   ·obtain⟨p,hp,e,he⟩:=I.ask.of q h
    exact⟨p,List.mem_append_left _ hp,e,he⟩
   ·refine⟨o,by simp,?_⟩
    rcases List.mem_cons.1 h with h|h
    ·rw[h];exact⟨rfl,fun h=>by cases h⟩
    ·split at h
     ·rename_i hs
      rw[List.mem_singleton.1 h]
      exact⟨rfl,fun _=>⟨hs,(hent hs).symm⟩⟩
     ·cases h
  ·rcases hmem p hp with h|h
   ·exact hold _ (I.ask.own p h)
   ·rw[h,hA];simp
  ·rcases hmem p hp with h'|h'
   ·exact hold _ (I.ask.sto p h' h)
   ·rw[h']at h⊢
    rw[hent h,hA,if_pos h]
    simp
  ·rcases hmem p hp with h'|h'
   ·rw[(hrd p h').1.1]at h3⊢
    exact hold _ (I.ask.lod p h' h1 h2 h3)
   ·rw[h']at h1 h2
    rcases hst with h4|⟨_,_,h4⟩
    ·omega
    ·exact absurd h4 h2
 ·intro q hq
  rcases hmem q hq with h|h
  ·exact I.lat q h
  ·rw[h];exact hlat
theorem chN_pos (s:Cr):0≤chN s:=by
 unfold chN
 split<;>omega
theorem wayO_is (M:Mc) (s:Cr) (o:Dg):∃K,(wayO M s o).1={s with scr:=K}∧(o.i.op≠3→trn o.i=false→(wayO M s o).2=(o.pc+4)%4294967296):=by
 unfold wayO
 split
 ·exact⟨s.scr,rfl,fun h=>by contradiction⟩
 ·split
  ·rename_i h
   exact⟨_,rfl,fun _ h'=>by rw[h]at h';cases h'⟩
  ·exact⟨s.scr,rfl,fun _ _=>rfl⟩
theorem gueL_is (M:Mc) (s:Cr) (o:Dg) (hg:o.gs=false):∃L k g K v,(gueL M s o).2={o with late:=L,car:=k,gs:=g}∧
  (gueL M s o).1={s with scr:=K,wd:=if g=true then upI s.wd o.to v else s.wd,th:=if g=true then upB s.th o.to true else s.th}∧0≤L∧L≤9∧(g=true→o.rd≠0):=by
 have h0:=chN_pos s
 unfold gueL
 simp only[]
 split
 ·rename_i h
  exact⟨chN s%10,decide (chN s/10%2=1),true,s.scr.tail,(valO M s o.pc (chN s/10/2)).1,rfl,rfl,by omega,by omega,fun _=>h.2⟩
 ·exact⟨chN s%10,decide (chN s/10%2=1),false,s.scr.tail,0,by rw[←hg],rfl,by omega,by omega,fun h=>by cases h⟩
theorem gueO_is (M:Mc) (s:Cr) (o:Dg) (hg:o.gs=false) (hl:o.late=0):∃w L k g K v,(gueO M s o).2={o with next:=w,late:=L,car:=k,gs:=g}∧
  (gueO M s o).1={s with fro:=w,scr:=K,wd:=if g=true then upI s.wd o.to v else s.wd,th:=if g=true then upB s.th o.to true else s.th}∧0≤L∧L≤9∧(g=true→o.rd≠0)∧(o.i.op≠3→trn o.i=false→w=(o.pc+4)%4294967296):=by
 obtain⟨K,h1,h2⟩:=wayO_is M s o
 obtain⟨w,hw⟩:∃w,w=(wayO M s o).2:=⟨_,rfl⟩
 rw[←hw]at h2
 have e:gueO M s o=if ldn o.i.op=0 then({s with scr:=K,fro:=w},{o with next:=w})else gueL M {s with scr:=K,fro:=w} {o with next:=w}:=by
  unfold gueO
  simp only[]
  rw[h1,←hw]
 rw[e]
 split
 ·exact⟨w,o.late,o.car,false,K,0,by rw[←hg],rfl,by omega,by omega,(fun h=>by cases h),h2⟩
 ·obtain⟨L,k,g,K',v,g1,g2,g3,g4,g5⟩:=gueL_is M {s with scr:=K,fro:=w} {o with next:=w} hg
  exact⟨w,L,k,g,K',v,g1,g2,g3,g4,g5,h2⟩
theorem rdI_is {M:Mc} (hM:MOk M) {s:Cr} {m:Nat→Int} (I:Inv M s m):rdI M s=fet M s.n (fE s.f s.under) s.fro:=by
 have h:=sb_fE (l1:=s.under) (l2:=[]) (by simpa using I.ask) (by simpa using I.rise) (s:=s.tak) (fun q hq=>(I.low q hq).2) (fun q hq=>by cases hq) (ch_oks hM I.ch) s.f s.fro.toNat
 unfold rdI fet seeV
 rw[h]
 rfl
theorem donS_new {l:List Sl} {q:Int} (h:∀p∈l,p.1≠q):donS (l++[(q,false)]) q=l++[(q,true)]:=by
 unfold donS
 rw[List.map_append]
 congr 1
 ·rw[List.map_congr_left (g:=id) (fun p hp=>by rw[if_neg (h p hp)];rfl),List.map_id]
 ·simp
theorem tak1_inv {M:Mc} (hM:MOk M) {s:Cr} {m:Nat→Int} (I:Inv M s m) (ho:s.opn=true) (htak:0≤s.tak):
  Inv M (tak1 M s).1 m∧((tak1 M s).2=false→(tak1 M s).1=s∧(s.win≤s.slots.length∨s.free=[]))∧((tak1 M s).2=true→∃o,(tak1 M s).1.under=s.under++[o]∧mu o≤12∧(tak1 M s).1.tak=s.tak+1)∧
   (tak1 M s).1.coms=s.coms∧(tak1 M s).1.R=s.R∧(tak1 M s).1.pc=s.pc∧(tak1 M s).1.st=s.st∧(tak1 M s).1.ca=s.ca∧(tak1 M s).1.f=s.f∧(tak1 M s).1.n=s.n∧(tak1 M s).1.cyc=s.cyc∧(tak1 M s).1.win=s.win∧(tak1 M s).1.phys=s.phys∧(tak1 M s).1.wide=s.wide∧(tak1 M s).1.bck=s.bck∧(tak1 M s).1.tb=s.tb:=by
 have hrI:=rdI_is hM I
 have hfro:s.fro=pE s.pc s.under:=by
  rcases I.en with⟨_,h,_⟩|⟨h,_⟩
  ·exact h
  ·rw[ho]at h;cases h
 unfold tak1
 split
 ·rename_i h
  exact⟨I,fun _=>⟨rfl,.inl h⟩,(fun h=>by cases h),rfl,rfl,rfl,rfl,rfl,rfl,rfl,rfl,rfl,rfl,rfl,rfl,rfl⟩
 ·split
  ·rename_i h
   exact⟨I,fun _=>⟨rfl,.inr h.2⟩,(fun h=>by cases h),rfl,rfl,rfl,rfl,rfl,rfl,rfl,rfl,rfl,rfl,rfl,rfl,rfl⟩
  ·rename_i hfree
   simp only[]
   by_cases hc:(rdI M s).2≠0
   ·rw[if_pos hc]
    have hz:(rdI M s).1=zin:=by rw[hrI]at hc⊢;exact fet_bad hc
    have e0:gvs zin=0:=zin_rd.1
    have hnew:(newO M s).rd=0:=by unfold newO;rw[hz];exact e0
    have hnam:namO (askO {s with slots:=s.slots++[(s.tak,false)],tak:=s.tak+1} (newO M s)) (newO M s)=(askO {s with slots:=s.slots++[(s.tak,false)],tak:=s.tak+1} (newO M s),{newO M s with a:=s.regs (ra (newO M s).i),b:=s.regs (rb (newO M s).i)}):=by
     unfold namO
     rw[if_pos hnew]
     rfl
    rw[hnam]
    have hsl:donS (s.slots++[(s.tak,false)]) s.tak=s.slots++[(s.tak,true)]:=donS_new fun p hp=>by
     rw[I.slo]at hp
     obtain⟨q,hq,rfl⟩:=List.mem_map.1 hp
     have:=(I.low q hq).2
     show q.seq≠s.tak
     omega
    obtain⟨o,hoe⟩:∃o:Dg,o={newO M s with a:=s.regs (ra (newO M s).i),b:=s.regs (rb (newO M s).i),st:=2,c:=trapC s.fro (rdI M s).2}:=⟨_,rfl⟩
    have hi:o.i=zin:=by rw[hoe];exact hz
    have hL:Loc M s.n s.wd s.th (pE s.pc s.under) (mE m s.under) (fE s.f s.under) o:=by
     have hf2:(fet M s.n (fE s.f s.under) (pE s.pc s.under))=rdI M s:=by rw[hrI,←hfro]
     refine⟨?_,?_,?_,?_,?_,fun h=>?_,fun _=>?_,fun _ h=>?_,fun _ h=>?_,fun h h0 hr=>?_,fun h=>?_,?_,fun h=>?_⟩
     ·rw[hoe];exact hfro
     ·rw[hf2,hoe];rfl
     ·rw[hoe];rfl
     ·rw[hoe,I.reg]
     ·rw[hoe,I.reg]
     ·rw[hoe]at h;exact absurd hnew h
     ·rw[hf2,hoe,←hfro];exact⟨rfl,rfl⟩
     ·rw[hf2]at h;exact absurd h hc
     ·rw[hf2]at h;exact absurd h hc
     ·rw[hoe]at hr;exact absurd hnew hr
     ·rw[hoe]at h;exact absurd rfl h
     ·rw[hoe];exact .inr (.inr rfl)
     ·rw[hoe]at h;exact absurd rfl h
    have hstp:stp o:=by rw[hoe];exact⟨rfl,by show(2:Int)≠0;decide⟩
    have hT:({(stopO (askO {s with slots:=s.slots++[(s.tak,false)],tak:=s.tak+1} (newO M s)) {newO M s with a:=s.regs (ra (newO M s).i),b:=s.regs (rb (newO M s).i)} (rdI M s).2).1 with under:=(stopO (askO {s with slots:=s.slots++[(s.tak,false)],tak:=s.tak+1} (newO M s)) {newO M s with a:=s.regs (ra (newO M s).i),b:=s.regs (rb (newO M s).i)} (rdI M s).2).1.under++[(stopO (askO {s with slots:=s.slots++[(s.tak,false)],tak:=s.tak+1} (newO M s)) {newO M s with a:=s.regs (ra (newO M s).i),b:=s.regs (rb (newO M s).i)} (rdI M s).2).2]}:Cr)
      ={s with slots:=s.slots++[slot o],under:=s.under++[o],tak:=s.tak+1,asked:=s.asked++(ownA o::if sts o.i then[st0 o.seq]else[]),regs:=s.regs,free:=s.free,wd:=s.wd,th:=s.th,scr:=s.scr,fro:=s.fro,opn:=false}:=by
     unfold stopO askO
     simp only[]
     have e1:donS (s.slots++[(s.tak,false)]) (newO M s).seq=s.slots++[slot o]:=by
      rw[hoe];exact hsl
     rw[e1,hoe]
     rfl
    refine⟨inv_new hM I ho hT (by rw[hoe];rfl) htak hL (by rw[hoe,if_pos hnew];rfl) (by unfold nm;rw[if_pos (by rw[hoe];exact hnew)]) (fun _ _=>⟨rfl,rfl⟩) rfl (.inr ⟨by rw[hoe],by rw[hi];exact zin_rd.2.2.2.2,by rw[hi];exact zin_rd.2.2.2.1⟩) (by rw[hoe];exact⟨Int.le_refl 0,by show(0:Int)≤9;omega⟩) (.inr ⟨rfl,hstp⟩),(fun h=>by cases h),fun _=>⟨_,rfl,?_,rfl⟩,rfl,rfl,rfl,rfl,rfl,rfl,rfl,rfl,rfl,rfl,rfl,rfl,rfl⟩
    have hmu:∀p:Dg,p.st=2→mu p≤12:=fun p hp=>by unfold mu;rw[if_pos hp];omega
    exact hmu _ rfl
   ·rw[if_neg hc]
    have hc:(rdI M s).2=0:=by simpa using hc
    obtain⟨o2,ho2⟩:∃o2:Dg,o2=(namO (askO {s with slots:=s.slots++[(s.tak,false)],tak:=s.tak+1} (newO M s)) (newO M s)).2:=⟨_,rfl⟩
    obtain⟨s2,hs2⟩:∃s2:Cr,s2=(namO (askO {s with slots:=s.slots++[(s.tak,false)],tak:=s.tak+1} (newO M s)) (newO M s)).1:=⟨_,rfl⟩
    rw[←ho2,←hs2]
    have f1:o2.gs=false∧o2.late=0∧o2.rd=gvs (rdI M s).1∧o2.i=(rdI M s).1∧o2.pc=s.fro∧o2.seq=s.tak∧o2.st=0∧o2.a=s.regs (ra o2.i)∧o2.b=s.regs (rb o2.i)∧(o2.rd≠0→o2.old=s.regs o2.rd):=by
     rw[ho2]
     unfold namO
     split
     ·exact⟨rfl,rfl,rfl,rfl,rfl,rfl,rfl,rfl,rfl,fun h=>by rename_i h';exact absurd h' h⟩
     ·exact⟨rfl,rfl,rfl,rfl,rfl,rfl,rfl,rfl,rfl,fun _=>rfl⟩
    obtain⟨k1,k2,k3,k4,k5,k6,k7,k8,k9,k10⟩:=f1
    have f2:s2={s with slots:=s.slots++[(s.tak,false)],tak:=s.tak+1,asked:=s.asked++(ownA o2::if sts o2.i then[st0 o2.seq]else[]),regs:=nm s.regs o2,free:=if o2.rd=0 then s.free else s.free.tail,th:=if o2.rd=0 then s.th else upB s.th o2.to false}∧(o2.rd≠0→o2.to=s.free.headD 0):=by
     rw[hs2,ho2]
     unfold namO nm
     by_cases h:(newO M s).rd=0
     ·simp only[h,if_true];exact⟨rfl,fun h'=>absurd rfl h'⟩
     ·simp only[h,if_false];exact⟨rfl,fun _=>rfl⟩
    obtain⟨f2,f3⟩:=f2
    have hfr:o2.rd≠0→s.free=o2.to::s.free.tail:=fun h=>by
     rw[f3 h]
     cases hx:s.free with
     |nil=>exact absurd ⟨by rw[←k3];exact h,hx⟩ hfree
     |cons x l=>rfl
    obtain⟨w,L,k,g,K,v,g1,g2,g3,g4,g5,g6⟩:=gueO_is M s2 o2 k1 k2
    rw[g1,g2]
    obtain⟨o,hoe⟩:∃o:Dg,o={o2 with next:=w,late:=L,car:=k,gs:=g}:=⟨_,rfl⟩
    rw[←hoe]
    have hT:({({s2 with fro:=w,scr:=K,wd:=if g=true then upI s2.wd o2.to v else s2.wd,th:=if g=true then upB s2.th o2.to true else s2.th}:Cr)with under:=({s2 with fro:=w,scr:=K,wd:=if g=true then upI s2.wd o2.to v else s2.wd,th:=if g=true then upB s2.th o2.to true else s2.th}:Cr).under++[o]}:Cr)
      ={s with slots:=s.slots++[slot o],under:=s.under++[o],tak:=s.tak+1,asked:=s.asked++(ownA o::if sts o.i then[st0 o.seq]else[]),regs:=nm s.regs o,free:=if o.rd=0 then s.free else s.free.tail,wd:=if g=true then upI s.wd o.to v else s.wd,th:=if g=true then upB (if o.rd=0 then s.th else upB s.th o.to false) o.to true else(if o.rd=0 then s.th else upB s.th o.to false),scr:=K,fro:=w,opn:=s.opn}:=by
     have e1:slot o=(s.tak,false):=by rw[hoe];unfold slot;simp[k6,k7]
     rw[f2,e1,hoe]
     rfl
    have hst:o.st=0:=by rw[hoe];exact k7
    have hf2:(fet M s.n (fE s.f s.under) (pE s.pc s.under))=rdI M s:=by rw[hrI,←hfro]
    have hth:o.rd≠0→(if g=true then upB (if o.rd=0 then s.th else upB s.th o.to false) o.to true else(if o.rd=0 then s.th else upB s.th o.to false)) o.to=o.gs:=fun h=>by
     have hgs:o.gs=g:=by rw[hoe]
     rw[hgs,if_neg h]
     cases g with
     |false=>simp[upB]
     |true=>simp[upB]
    have hL:Loc M s.n (if g=true then upI s.wd o.to v else s.wd) (if g=true then upB (if o.rd=0 then s.th else upB s.th o.to false) o.to true else(if o.rd=0 then s.th else upB s.th o.to false)) (pE s.pc s.under) (mE m s.under) (fE s.f s.under) o:=by
     refine⟨?_,?_,?_,?_,?_,fun h=>?_,fun h=>?_,fun h _=>absurd hst h,fun h=>?_,fun h=>?_,fun _ h=>hth h,.inl hst,fun _ h3 ht=>?_⟩
     ·rw[hoe,←hfro];exact k5
     ·rw[hf2,hoe];exact k4
     ·rw[hoe];show o2.rd=gvs o2.i;rw[k3,k4]
     ·rw[hoe,I.reg];exact k8
     ·rw[hoe,I.reg];exact k9
     ·rw[hoe,I.reg]at*;exact k10 h
     ·rw[hf2]at h;exact absurd hc h
     ·omega
     ·omega
     ·rw[hoe]at h3 ht⊢;exact g6 h3 ht
    refine⟨inv_new hM I ho hT (by rw[hoe];exact k6) htak hL ?_ rfl (fun x hx=>?_) rfl (.inl hst) (by rw[hoe];exact⟨g3,g4⟩) (.inl ⟨ho,?_,fun h=>by have:=h.1;omega⟩),(fun h=>by cases h),fun _=>⟨o,by rw[f2],?_,by rw[f2]⟩,by rw[f2],by rw[f2],by rw[f2],by rw[f2],by rw[f2],by rw[f2],by rw[f2],by rw[f2],by rw[f2],by rw[f2],by rw[f2],by rw[f2],by rw[f2]⟩
    ·by_cases h:o.rd=0
     ·rw[if_pos h,if_pos h];rfl
     ·rw[if_neg h,if_neg h]
      have:=hfr (by rw[hoe]at h;exact h)
      rw[hoe]
      exact this
    ·refine⟨?_,?_⟩
     ·split
      ·rename_i hg
       have:o.rd≠0:=by rw[hoe];exact g5 hg
       exact if_neg (hx this)
      ·rfl
     ·have base:(if o.rd=0 then s.th else upB s.th o.to false) x=s.th x:=by
       split
       ·rfl
       ·rename_i h;exact if_neg (hx h)
      split
      ·rename_i hg
       have:o.rd≠0:=by rw[hoe];exact g5 hg
       rw[←base]
       exact if_neg (hx this)
      ·exact base
    ·unfold nx;rw[if_neg (by omega),hoe]
    ·unfold mu;rw[if_neg (by omega),if_neg (by omega)];omega
structure Hs where
 R:Nat→Int
 pc:Int
 st:Int
 ca:Int
 f:Nat→Int
def hsC (M:Mc) (n:Nat) (h:Hs):Cm:=stepC M n h.R h.pc h.f
def hsN (M:Mc) (n:Nat) (h:Hs):Hs:=⟨updC h.R (hsC M n h),(hsC M n h).next,(hsC M n h).st,(hsC M n h).ca,stoC h.f (hsC M n h)⟩
def hsAt (M:Mc) (n:Nat) (h:Hs):Nat→Hs
 |0=>h
 |k+1=>hsN M n (hsAt M n h k)
structure Ref (M:Mc) (h:Hs) (s:Cr):Prop where
 is:(⟨s.R,s.pc,s.st,s.ca,s.f⟩:Hs)=hsAt M s.n h s.coms.length
 coms:s.coms=(List.range s.coms.length).map fun j=>hsC M s.n (hsAt M s.n h j)
 runs:∀j,j<s.coms.length→(hsAt M s.n h j).st=0
def pop1 (M:Mc) (s:Cr) (o:Dg) (l:List Dg):Cr:={com1 M s o with slots:=s.slots.drop 1,under:=l,asked:=s.asked.filter fun q=>!decide (q.seq=o.seq)}
theorem head_com {M:Mc} (hM:MOk M) {s:Cr} {m:Nat→Int} (I:Inv M s m) {o:Dg} {l:List Dg} (hu:s.under=o::l) (h2:o.st=2):o.c=stepC M s.n s.R s.pc s.f:=by
 have hloc:=ch_at (l1:=[]) (show Ch M s.n s.wd s.th s.pc m s.f ([]++o::l)from hu▸I.ch)
 have hloc:Loc M s.n s.wd s.th s.pc m s.f o:=hloc
 obtain⟨_,hra,hrb⟩:=loc_fld hM hloc
 unfold stepC
 split
 ·rename_i hz
  exact(hloc.bad hz).2
 ·rename_i hz
  have hz:(fet M s.n s.f s.pc).2=0:=by simpa using hz
  rw[hloc.com h2 hz,hloc.a,hloc.b,(I.base _ hra).2,(I.base _ hrb).2,hloc.ins]
theorem pop1_inv {M:Mc} (hM:MOk M) {s:Cr} {m:Nat→Int} (I:Inv M s m) {o:Dg} {l:List Dg} (hu:s.under=o::l) (h2:o.st=2) (h0:o.c.st=0):Inv M (pop1 M s o l) (nm m o):=by
 have hch:Loc M s.n s.wd s.th s.pc m s.f o∧(stp o→l=[])∧Ch M s.n s.wd s.th (nx o) (nm m o) (nf s.f o) l:=by
  have:=I.ch
  rw[hu]at this
  exact this
 obtain⟨hloc,_,htail⟩:=hch
 have hcm:=loc_cm hM hloc h2
 have hrd:o.c.rd=o.rd:=by rw[hcm.gives h0,hloc.rd]
 have hr32:=(loc_fld hM hloc).1
 have hd:Dis s.phys m (tos (o::l)++s.free):=hu▸I.dis
 have hd1:=Dis.nm hd hr32
 have hcnt:32+((tos (o::l)++s.free).length:Int)=s.phys:=hu▸I.cnt
 have hns:¬stp o:=fun h=>h.2 h0
 have hr:Rise (o::l):=hu▸I.rise
 obtain⟨hr1,hr2⟩:=rise_cons.1 hr
 have hA:As s.n s.wd (o::l) s.asked:=hu▸I.ask
 refine⟨fun r hr=>?_,?_,?_,?_,?_,?_,hr2,fun q hq=>I.low q (by rw[hu];exact List.mem_cons_of_mem _ hq),?_,?_,fun q hq=>I.lat q (by rw[hu];exact List.mem_cons_of_mem _ hq)⟩
 ·show s.th (nm m o r)=true∧s.wd (nm m o r)=updC s.R o.c r
  unfold nm updC
  rw[hrd]
  split
  ·exact I.base r hr
  ·rename_i hz
   by_cases e:r=o.rd
   ·subst e
    rw[up_at,up_at]
    exact hloc.fil h2 h0 hz
   ·rw[up_ne e,up_ne e];exact I.base r hr
 ·show Ch M s.n s.wd s.th o.c.next (nm m o) (stoC s.f o.c) l
  have e1:nx o=o.c.next:=if_pos h2
  have e2:nf s.f o=stoC s.f o.c:=if_pos h2
  rw[←e1,←e2]
  exact htail
 ·show mE (nm m o) l=s.regs
  rw[←I.reg,hu]
  rfl
 ·have e1:nx o=o.c.next:=if_pos h2
  rcases I.en with⟨g1,g2,g3⟩|⟨g1,l0,q,g2,g3⟩
  ·left
   refine⟨g1,?_,fun q hq=>g3 q (by rw[hu];exact List.mem_cons_of_mem _ hq)⟩
   show s.fro=pE o.c.next l
   rw[g2,hu,←e1]
   rfl
  ·right
   refine⟨g1,?_⟩
   rw[hu]at g2
   cases l0 with
   |nil=>
    simp at g2
    rw[←g2.1]at g3
    exact absurd g3 hns
   |cons x l0=>
    simp at g2
    exact⟨l0,q,g2.2,g3⟩
 ·show Dis s.phys (nm m o) (tos l++(if o.rd=0 then s.free else s.free++[o.old]))
  split
  ·exact hd1
  ·rename_i hz
   have hold:=hloc.old hz
   rw[tos_cons,if_neg hz]at hd
   have hm:m o.rd∉o.to::tos l++s.free:=hd.apart _ hr32
   refine⟨hd1.inj,?_,fun r hr hin=>?_,hd1.rm,fun x hx=>?_⟩
   ·rw[←List.append_assoc,List.nodup_append]
    refine⟨hd1.nod,by simp,fun a ha b hb e=>hm ?_⟩
    rw[List.mem_singleton.1 hb,hold]at e
    rw[←e]
    exact List.mem_cons_of_mem _ ha
   ·rw[←List.append_assoc]at hin
    rcases List.mem_append.1 hin with h|h
    ·exact hd1.apart r hr h
    ·have h:=List.mem_singleton.1 h
     rw[hold]at h
     unfold nm at h
     rw[if_neg hz]at h
     by_cases e:r=o.rd
     ·subst e
      rw[up_at]at h
      exact hm (by rw[←h];simp)
     ·rw[up_ne e]at h
      exact e (hd.inj r o.rd hr hr32 h)
   ·rw[←List.append_assoc]at hx
    rcases List.mem_append.1 hx with h|h
    ·exact hd1.rf x h
    ·rw[List.mem_singleton.1 h,hold]
     exact hd.rm _ hr32
 ·show 32+((tos l++(if o.rd=0 then s.free else s.free++[o.old])).length:Int)=s.phys
  rw[tos_cons]at hcnt
  split
  ·rename_i hz;rw[if_pos hz]at hcnt;exact hcnt
  ·rename_i hz;rw[if_neg hz]at hcnt;rw[←hcnt];simp;omega
 ·show s.slots.drop 1=l.map slot
  rw[I.slo,hu]
  rfl
 ·show As s.n s.wd l (s.asked.filter fun q=>!decide (q.seq=o.seq))
  have keep:∀a∈s.asked,a.seq≠o.seq→a∈s.asked.filter fun q=>!decide (q.seq=o.seq):=fun a ha hn=>List.mem_filter.2 ⟨ha,by simp[hn]⟩
  have hne:∀p∈l,p.seq≠o.seq:=fun p hp=>by have:=hr1 p hp;omega
  refine⟨fun q hq=>?_,fun p hp=>keep _ (hA.own p (List.mem_cons_of_mem _ hp)) (hne p hp),fun p hp h=>keep _ (hA.sto p (List.mem_cons_of_mem _ hp) h) ?_,fun p hp g1 g2 g3=>keep _ (hA.lod p (List.mem_cons_of_mem _ hp) g1 g2 g3) (hne p hp)⟩
  ·obtain⟨hq1,hq2⟩:=List.mem_filter.1 hq
   obtain⟨p,hp,e,he⟩:=hA.of q hq1
   simp at hq2
   rcases List.mem_cons.1 hp with h|h
   ·rw[h]at e;exact absurd e hq2
   ·exact⟨p,h,e,he⟩
  ·unfold entA
   split<;>exact hne p hp
theorem pop1_ref {M:Mc} (hM:MOk M) {s:Cr} {m:Nat→Int} (I:Inv M s m) {o:Dg} {l:List Dg} (hu:s.under=o::l) (h2:o.st=2) (hs:s.st=0) {h:Hs} (hR:Ref M h s):Ref M h (pop1 M s o l):=by
 have hc:=head_com hM I hu h2
 have hc':o.c=hsC M s.n (hsAt M s.n h s.coms.length):=by
  rw[←hR.is]
  exact hc
 have hlen:(s.coms++[o.c]).length=s.coms.length+1:=by simp
 refine⟨?_,?_,fun j hj=>?_⟩
 ·show(⟨updC s.R o.c,o.c.next,o.c.st,o.c.ca,stoC s.f o.c⟩:Hs)=hsAt M s.n h (s.coms++[o.c]).length
  rw[hlen]
  show _=hsN M s.n (hsAt M s.n h s.coms.length)
  unfold hsN
  rw[←hc',←hR.is]
 ·show s.coms++[o.c]=(List.range (s.coms++[o.c]).length).map fun j=>hsC M s.n (hsAt M s.n h j)
  rw[hlen,List.range_succ,List.map_append,←hR.coms,hc']
  rfl
 ·have hj:j<(s.coms++[o.c]).length:=hj
  rw[hlen]at hj
  by_cases e:j=s.coms.length
  ·subst e
   show(hsAt M s.n h s.coms.length).st=0
   rw[←hR.is]
   exact hs
  ·exact hR.runs j (by omega)
def comN (M:Mc) (k:Nat) (s:Cr):Cr:=
 {(s.under.take k).foldl (com1 M) s with slots:=s.slots.drop k,under:=s.under.drop k,asked:=s.asked.filter fun q=>!decide (q.seq∈(s.slots.take k).map (·.1))}
def cutC (s:Cr) (sl:List Sl) (un:List Dg) (ak:List Ac):Cr:={s with slots:=sl,under:=un,asked:=ak}
theorem fold_com1 (M:Mc) (sl:List Sl) (un:List Dg) (ak:List Ac):∀(l:List Dg) (s:Cr),l.foldl (com1 M) (cutC s sl un ak)=cutC (l.foldl (com1 M) s) sl un ak
 |[],s=>rfl
 |o::l,s=>by
  rw[List.foldl_cons,List.foldl_cons]
  exact fold_com1 M sl un ak l (com1 M s o)
theorem comN_succ {M:Mc} {s:Cr} {m:Nat→Int} (I:Inv M s m) {o:Dg} {l:List Dg} (hu:s.under=o::l) (k:Nat):comN M (k+1) s=comN M k (pop1 M s o l):=by
 have hsl:s.slots=slot o::l.map slot:=by rw[I.slo,hu];rfl
 have e:s.asked.filter (fun q=>!decide (q.seq∈(s.slots.take (k+1)).map (·.1)))=(s.asked.filter fun q=>!decide (q.seq=o.seq)).filter fun q=>!decide (q.seq∈((s.slots.drop 1).take k).map (·.1)):=by
  rw[List.filter_filter,hsl]
  refine List.filter_congr fun q _=>?_
  have:(slot o).1=o.seq:=rfl
  rw[Bool.and_comm]
  simp[this]
 have e1:comN M (k+1) s=cutC ((s.under.take (k+1)).foldl (com1 M) s) (s.slots.drop (k+1)) (s.under.drop (k+1)) (s.asked.filter fun q=>!decide (q.seq∈(s.slots.take (k+1)).map (·.1))):=rfl
 have e2:comN M k (pop1 M s o l)=cutC ((l.take k).foldl (com1 M) (cutC (com1 M s o) (s.slots.drop 1) l (s.asked.filter fun q=>!decide (q.seq=o.seq)))) ((s.slots.drop 1).drop k) (l.drop k) ((s.asked.filter fun q=>!decide (q.seq=o.seq)).filter fun q=>!decide (q.seq∈((s.slots.drop 1).take k).map (·.1))):=rfl
 rw[e1,e2,fold_com1,e,hu,List.take_succ_cons,List.foldl_cons,List.drop_succ_cons,List.drop_drop]
 rw[Nat.add_comm 1 k]
 rfl
structure Stay (s t:Cr):Prop where
 win:t.win=s.win
 phys:t.phys=s.phys
 wide:t.wide=s.wide
 n:t.n=s.n
 cyc:t.cyc=s.cyc
 tak:t.tak=s.tak
 bck:t.bck=s.bck
 scr:t.scr=s.scr
theorem comN_zero (M:Mc) (s:Cr):comN M 0 s=s:=by
 have e:s.asked.filter (fun q=>!decide (q.seq∈(s.slots.take 0).map (·.1)))=s.asked:=List.filter_eq_self.2 fun q _=>by simp
 show cutC _ _ _ _=_
 rw[e]
 rfl
theorem comN_inv {M:Mc} (hM:MOk M) {h:Hs}:∀(k:Nat) (s:Cr) (m:Nat→Int),Inv M s m→s.st=0→Ref M h s→k≤s.under.length→(∀o∈s.under.take k,o.st=2)→
  Ref M h (comN M k s)∧(comN M k s).coms.length=s.coms.length+k∧((comN M k s).st=0→∃m',Inv M (comN M k s) m')∧Stay s (comN M k s)
 |0,s,m,I,hs,hR,_,_=>by
  rw[comN_zero]
  exact⟨hR,rfl,fun _=>⟨m,I⟩,rfl,rfl,rfl,rfl,rfl,rfl,rfl,rfl⟩
 |k+1,s,m,I,hs,hR,hk,hd=>by
  cases hu:s.under with
  |nil=>rw[hu]at hk;simp at hk
  |cons o l=>
   have h2:o.st=2:=hd o (by rw[hu];simp)
   have hR':=pop1_ref hM I hu h2 hs hR
   rw[comN_succ I hu k]
   have hl1:(pop1 M s o l).coms.length=s.coms.length+1:=by show(s.coms++[o.c]).length=_;simp
   by_cases h0:o.c.st=0
   ·have I':=pop1_inv hM I hu h2 h0
    obtain⟨g1,g2,g3,g4⟩:=comN_inv hM k (pop1 M s o l) (nm m o) I' h0 hR' (by show k≤l.length;rw[hu]at hk;simp at hk;omega) (fun q hq=>hd q (by rw[hu,List.take_succ_cons];exact List.mem_cons_of_mem _ hq))
    exact⟨g1,by rw[g2,hl1];omega,g3,g4.win,g4.phys,g4.wide,g4.n,g4.cyc,g4.tak,g4.bck,g4.scr⟩
   ·have hl:l=[]:=by
     have:=I.ch
     rw[hu]at this
     exact this.2.1 ⟨h2,h0⟩
    subst hl
    rw[hu]at hk
    simp at hk
    subst hk
    rw[comN_zero]
    exact⟨hR',hl1,fun h=>absurd h h0,rfl,rfl,rfl,rfl,rfl,rfl,rfl,rfl⟩
theorem goesN_le:∀(l:List Sl) (k:Nat),goesN l k≤k∧goesN l k≤l.length
 |[],k=>by simp[goesN]
 |q::l,0=>by simp[goesN]
 |q::l,k+1=>by
  have:=goesN_le l k
  unfold goesN
  split
  ·simp;omega
  ·simp
theorem goesN_done:∀(l:List Dg) (k:Nat),∀o∈l.take (goesN (l.map slot) k),o.st=2
 |[],k,o,h=>by simp at h
 |q::l,0,o,h=>by simp[goesN]at h
 |q::l,k+1,o,h=>by
  rw[List.map_cons]at h
  unfold goesN at h
  split at h
  ·rename_i hq
   rw[List.take_succ_cons]at h
   rcases List.mem_cons.1 h with h|h
   ·rw[h];simpa[slot]using hq
   ·exact goesN_done l k o h
  ·simp at h
theorem goesN_first {o:Dg} {l:List Dg} {k:Nat} (h:o.st=2) (hk:0<k):0<goesN ((o::l).map slot) k:=by
 obtain⟨j,rfl⟩:∃j,k=j+1:=⟨k-1,by omega⟩
 rw[List.map_cons]
 unfold goesN
 simp[slot,h]
end Go.Proofs.YtpiohehijkpghacGreatDoor.Co
