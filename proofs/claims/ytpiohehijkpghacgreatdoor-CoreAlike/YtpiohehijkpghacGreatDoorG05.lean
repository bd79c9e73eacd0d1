/- One that is done now: the core is as it should be. Plain mathematics. -/
import Derived.Test.YtpiohehijkpghacGreatDoorG04
namespace Go.Proofs.YtpiohehijkpghacGreatDoor.Co
open Go.RowKit
open Hy
open Wi Od Re.Hy
open Gu.Hy (Tb)
set_option linter.unusedVariables false
set_option linter.unusedSimpArgs false
def slot (o:Dg):Sl:=(o.seq,decide (o.st=2))
structure Inv (M:Mc) (s:Cr) (m:Nat→Int):Prop where
 base:∀r,r<32→s.th (m r)=true∧s.wd (m r)=s.R r
 ch:Ch M s.n s.wd s.th s.pc m s.f s.under
 reg:mE m s.under=s.regs
 en:(s.opn=true∧s.fro=pE s.pc s.under∧∀o∈s.under,¬stp o)∨(s.opn=false∧∃l o,s.under=l++[o]∧stp o)
 dis:Dis s.phys m (tos s.under++s.free)
 cnt:32+((tos s.under++s.free).length:Int)=s.phys
 rise:Rise s.under
 low:∀o∈s.under,0≤o.seq∧o.seq<s.tak
 slo:s.slots=s.under.map slot
 ask:As s.n s.wd s.under s.asked
 lat:∀o∈s.under,0≤o.late∧o.late≤9
theorem zin_rd:gvs zin=0∧ra zin=0∧rb zin=0∧ldn zin.op=0∧sts zin=false:=by decide
theorem loc_fld {M:Mc} (hM:MOk M) {n:Nat} {wd:Int→Int} {th:Int→Bool} {pc:Int} {m f:Nat→Int} {o:Dg} (h:Loc M n wd th pc m f o):o.rd<32∧ra o.i<32∧rb o.i<32:=by
 rw[h.rd]
 by_cases hz:(fet M n f pc).2=0
 ·obtain⟨x,hx⟩:=fet_ok hz
  rw[←h.ins]at hx
  obtain⟨h1,h2,h3,_⟩:=hM.fld hx
  refine⟨?_,?_,?_⟩
  ·unfold gvs;split<;>omega
  ·unfold ra;split<;>omega
  ·unfold rb;split<;>omega
 ·have:=fet_bad hz
  rw[h.ins,this,zin_rd.1,zin_rd.2.1,zin_rd.2.2.1]
  omega
theorem sts_ldn {i:In} (h:sts i=true):ldn i.op=0:=by
 unfold sts at h
 simp at h
 unfold ldn
 rw[if_neg (by omega),if_neg (by omega),if_neg (by omega)]
structure CmIs (n:Nat) (i:In) (pc:Int) (c:Cm):Prop where
 many:c.many=0∨(sts i=true∧(c.many=1∨c.many=2∨c.many=4)∧0≤c.pl∧c.pl+c.many≤n)
 gives:c.st=0→c.rd=gvs i
 stops:c.st≠0→c.next=pc∧c.rd=0∧i.op≠3∧trn i=false∧c.many=0
theorem cmIs_com {M:Mc} (hM:MOk M) {x:Int} {i:In} (hx:M.dcd x=some i) (n:Nat) (f:Nat→Int) (pc a b:Int):CmIs n i pc (comC M n f i pc a b):=by
 unfold comC
 split
 ·rename_i h0
  have hop:¬i.op=3∧¬(4≤i.op∧i.op≤10)∧i.op≠46:=by
   unfold ldn at h0
   by_cases h1:i.op=11∨i.op=14
   ·omega
   ·by_cases h2:i.op=12∨i.op=15
    ·omega
    ·by_cases h3:i.op=13
     ·omega
     ·rw[if_neg h1,if_neg h2,if_neg h3]at h0;exact absurd rfl h0
  unfold loadC
  split
  ·exact⟨.inl rfl,fun _=>by unfold gvs;rw[if_neg hop.2.2];rfl,fun h=>absurd rfl h⟩
  ·exact⟨.inl rfl,fun h=>absurd (show(2:Int)=0 from h) (by decide),fun _=>⟨rfl,rfl,hop.1,by simp[trn,hop.2.1],rfl⟩⟩
 ·rename_i h0
  have h0:ldn i.op=0:=by simpa using h0
  exact⟨hM.many pc a b n hx h0,hM.gives pc a b n hx h0,hM.stops pc a b n hx h0⟩
theorem cmIs_trap (n:Nat) (i:In) (pc k:Int) (h3:i.op≠3) (ht:trn i=false):CmIs n i pc (trapC pc k):=⟨.inl rfl,fun h=>absurd (show(2:Int)=0 from h) (by decide),fun _=>⟨rfl,rfl,h3,ht,rfl⟩⟩
theorem loc_cm {M:Mc} (hM:MOk M) {n:Nat} {wd:Int→Int} {th:Int→Bool} {pc:Int} {m f:Nat→Int} {o:Dg} (h:Loc M n wd th pc m f o) (h2:o.st=2):CmIs n o.i pc o.c:=by
 by_cases hz:(fet M n f pc).2=0
 ·obtain⟨x,hx⟩:=fet_ok hz
  rw[←h.ins]at hx
  rw[h.com h2 hz]
  exact cmIs_com hM hx _ _ _ _ _
 ·have e:=fet_bad hz
  rw[(h.bad hz).2,h.ins,e]
  exact cmIs_trap _ _ _ _ (by decide) (by decide)
theorem CmIs.ok {n:Nat} {o:Dg} {pc:Int} (h:CmIs n o.i pc o.c):cmOk o:=fun _=>by
 rcases h.many with h|⟨h1,h2,h3,_⟩
 ·exact .inl h
 ·exact .inr ⟨h1,h2,h3⟩
theorem ch_at {M:Mc} {n:Nat} {wd:Int→Int} {th:Int→Bool} {pc:Int} {m f:Nat→Int} {l1 l2:List Dg} {o:Dg} (h:Ch M n wd th pc m f (l1++o::l2)):Loc M n wd th (pE pc l1) (mE m l1) (fE f l1) o:=(ch_app.1 h).2.2.1
theorem ch_each {M:Mc} {n:Nat} {wd:Int→Int} {th:Int→Bool} {pc:Int} {m f:Nat→Int} {l:List Dg} {o:Dg} (h:Ch M n wd th pc m f l) (ho:o∈l):∃l1 l2,l=l1++o::l2∧Loc M n wd th (pE pc l1) (mE m l1) (fE f l1) o:=by
 obtain⟨l1,l2,rfl⟩:=List.append_of_mem ho
 exact⟨l1,l2,rfl,ch_at h⟩
theorem ch_rds {M:Mc} (hM:MOk M) {n:Nat} {wd:Int→Int} {th:Int→Bool} {pc:Int} {m f:Nat→Int} {l:List Dg} (h:Ch M n wd th pc m f l):∀o∈l,o.rd<32:=fun o ho=>by
 obtain⟨_,_,_,hl⟩:=ch_each h ho
 exact(loc_fld hM hl).1
theorem ch_oks {M:Mc} (hM:MOk M) {n:Nat} {wd:Int→Int} {th:Int→Bool} {pc:Int} {m f:Nat→Int} {l:List Dg} (h:Ch M n wd th pc m f l):∀o∈l,cmOk o:=fun o ho h2=>by
 obtain⟨_,_,_,hl⟩:=ch_each h ho
 exact(loc_cm hM hl h2).ok h2
theorem ch_reads {M:Mc} (hM:MOk M) {n:Nat} {wd:Int→Int} {th:Int→Bool} {pc:Int} {m f:Nat→Int} {l1 l2:List Dg} {o:Dg} (h:Ch M n wd th pc m f (l1++o::l2)):((∃r,r<32∧o.a=m r)∨o.a∈tos l1)∧((∃r,r<32∧o.b=m r)∨o.b∈tos l1):=by
 have hl:=ch_at h
 obtain⟨_,h2,h3⟩:=loc_fld hM hl
 rw[hl.a,hl.b]
 refine⟨?_,?_⟩
 ·rcases mE_from l1 m (ra o.i)with⟨r,rfl,e⟩|e
  ·exact .inl ⟨_,h2,e⟩
  ·exact .inr e
 ·rcases mE_from l1 m (rb o.i)with⟨r,rfl,e⟩|e
  ·exact .inl ⟨_,h3,e⟩
  ·exact .inr e
def Olds:(Nat→Int)→List Dg→Prop
 |_,[]=>True
 |m,o::l=>(o.rd≠0→o.old=m o.rd)∧Olds (nm m o) l
theorem olds_ch {M:Mc} {n:Nat} {wd:Int→Int} {th:Int→Bool}:∀{l:List Dg} {pc:Int} {m f:Nat→Int},Ch M n wd th pc m f l→Olds m l
 |[],_,_,_,_=>trivial
 |o::l,pc,m,f,h=>⟨h.1.old,olds_ch h.2.2⟩
theorem olds_app:∀{l1 l2:List Dg} {m:Nat→Int},Olds m (l1++l2)↔Olds m l1∧Olds (mE m l1) l2
 |[],l2,m=>by simp[Olds,mE]
 |o::l1,l2,m=>by
  have ih:=olds_app (l1:=l1) (l2:=l2) (m:=nm m o)
  have e2:mE m (o::l1)=mE (nm m o) l1:=rfl
  rw[List.cons_append,e2]
  show(_∧Olds (nm m o) (l1++l2))↔(_∧Olds (nm m o) l1)∧_
  rw[ih,and_assoc]
theorem undo_olds:∀{t:List Dg} {m:Nat→Int} {fr:List Int},Olds m t→undo (mE m t) fr t=(m,tos t++fr)
 |[],m,fr,_=>rfl
 |o::t,m,fr,h=>by
  have e2:mE m (o::t)=mE (nm m o) t:=rfl
  have ih:=undo_olds (fr:=fr) h.2
  rw[e2,tos_cons]
  unfold undo
  rw[ih]
  by_cases h0:o.rd=0
  ·simp[h0,nm]
  ·have:=h.1 h0
   simp only[h0,if_false,nm]
   rw[up_at,up_up,this,up_id]
   rfl
structure Bk (s:Cr) (m:Nat→Int):Prop where
 olds:Olds m s.under
 reg:mE m s.under=s.regs
 rise:Rise s.under
 slo:s.slots=s.under.map slot
theorem filter_split {p:Dg→Bool} {l1 l2:List Dg} (h1:∀o∈l1,p o=false) (h2:∀o∈l2,p o=true):(l1++l2).filter p=l2∧(l1++l2).filter (fun o=>!p o)=l1:=by
 rw[List.filter_append,List.filter_append]
 refine⟨?_,?_⟩
 ·rw[List.filter_eq_nil_iff.2 (fun o ho=>by simp[h1 o ho]),List.filter_eq_self.2 h2];rfl
 ·rw[List.filter_eq_self.2 (fun o ho=>by simp[h1 o ho]),List.filter_eq_nil_iff.2 (fun o ho=>by simp[h2 o ho]),List.append_nil]
theorem back_at {s:Cr} {m:Nat→Int} (h:Bk s m) {l1 l2:List Dg} (hu:s.under=l1++l2) (q pc:Int) (h1:∀o∈l1,o.seq<q) (h2:∀o∈l2,q≤o.seq):
  back s q pc={s with regs:=mE m l1,free:=tos l2++s.free,slots:=l1.map slot,under:=l1,asked:=s.asked.filter (fun a=>!decide (q≤a.seq)),bck:=if l2=[]then s.bck else s.bck+1,fro:=pc,opn:=true}:=by
 have f1:=filter_split (p:=fun o=>decide (q≤o.seq)) (l1:=l1) (l2:=l2) (fun o ho=>by have:=h1 o ho;simp;omega) (fun o ho=>by have:=h2 o ho;simp;omega)
 have ho:Olds (mE m l1) l2:=(olds_app.1 (hu▸h.olds)).2
 have hr:s.regs=mE (mE m l1) l2:=by rw[←h.reg,hu,mE_app]
 have hs:stayS s.slots q=l1.map slot:=by
  rw[h.slo,hu]
  unfold stayS
  rw[List.filter_map]
  exact congrArg _ f1.2
 have hc:cutS s.slots q=[]↔l2=[]:=by
  rw[h.slo,hu]
  unfold cutS
  rw[List.filter_map]
  have:(l1++l2).filter ((fun q':Sl=>decide (q≤q'.1))∘slot)=l2:=f1.1
  rw[this]
  simp
 unfold back
 rw[hs,hu,f1.1,f1.2,hr,undo_olds ho]
 by_cases e:l2=[]
 ·simp[hc.2 e,e]
 ·simp[mt hc.1 e,e]
theorem rise_split:∀{l:List Dg} (q:Int),Rise l→∃l1 l2,l=l1++l2∧(∀o∈l1,o.seq<q)∧∀o∈l2,q≤o.seq
 |[],q,_=>⟨[],[],rfl,fun o h=>(nomatch h),fun o h=>(nomatch h)⟩
 |o::l,q,h=>by
  obtain⟨h1,h2⟩:=rise_cons.1 h
  by_cases e:o.seq<q
  ·obtain⟨l1,l2,rfl,g1,g2⟩:=rise_split q h2
   refine⟨o::l1,l2,rfl,fun p hp=>?_,g2⟩
   rcases List.mem_cons.1 hp with rfl|hp
   ·exact e
   ·exact g1 p hp
  ·refine⟨[],o::l,rfl,fun p hp=>(nomatch hp),fun p hp=>?_⟩
   rcases List.mem_cons.1 hp with rfl|hp
   ·omega
   ·have:=h1 p hp;omega
theorem lst_none {l:List Ac} {s:Ac}:∀{k:Nat},lst l s k=none→∀j a,j<k→l[j]?=some a→(ovr s.seq a&&Od.mt s a)=false
 |0,_,j,a,hj,_=>absurd hj (by omega)
 |k+1,h,j,a,hj,ha=>by
  unfold lst at h
  split at h
  ·rename_i hk
   by_cases e:j=k
   ·subst e;rw[hk]at ha;cases ha
   ·exact lst_none h j a (by omega) ha
  ·rename_i b hb
   split at h
   ·cases h
   ·rename_i hc
    rw[h]at hc
    by_cases e:j=k
    ·subst e
     rw[hb]at ha
     cases ha
     cases hx:ovr s.seq a&&Od.mt s a with
     |false=>rfl
     |true=>rw[hx]at hc;exact absurd rfl hc
    ·exact lst_none h j a (by omega) ha
theorem lst_some {l:List Ac} {s:Ac}:∀{k:Nat} {e:Int},lst l s k=some e→(∃a∈l,a.seq=e∧(ovr s.seq a&&Od.mt s a)=true)∧∀j a,j<k→l[j]?=some a→(ovr s.seq a&&Od.mt s a)=true→e≤a.seq
 |0,e,h=>by cases h
 |k+1,e,h=>by
  unfold lst at h
  split at h
  ·rename_i hk
   obtain⟨h1,h2⟩:=lst_some h
   refine⟨h1,fun j a hj ha hc=>?_⟩
   by_cases e':j=k
   ·subst e';rw[hk]at ha;cases ha
   ·exact h2 j a (by omega) ha hc
  ·rename_i b hb
   split at h
   ·rename_i hc
    cases h
    rw[Bool.and_eq_true]at hc
    refine⟨⟨b,List.mem_of_getElem? hb,rfl,hc.1⟩,fun j a hj ha hx=>?_⟩
    by_cases e':j=k
    ·subst e';rw[hb]at ha;cases ha;exact Int.le_refl _
    ·cases hl:lst l s k with
     |none=>have:=lst_none hl j a (by omega) ha;rw[this]at hx;cases hx
     |some y=>
      have:=(lst_some hl).2 j a (by omega) ha hx
      have h3:=hc.2
      rw[hl]at h3
      simp[bef]at h3
      omega
   ·rename_i hc
    obtain⟨h1,h2⟩:=lst_some h
    refine⟨h1,fun j a hj ha hx=>?_⟩
    by_cases e':j=k
    ·subst e'
     rw[hb]at ha
     cases ha
     rw[h,hx]at hc
     simp[bef]at hc
     exact hc
    ·exact h2 j a (by omega) ha hx
theorem putO_at {l1 l2:List Dg} {o:Dg} (h:Rise (l1++o::l2)) (g:Dg→Dg):putO (l1++o::l2) o.seq g=l1++g o::l2:=by
 obtain⟨h1,h2,h3⟩:=rise_app.1 h
 obtain⟨h4,_⟩:=rise_cons.1 h2
 unfold putO
 rw[List.map_append,List.map_cons]
 have e1:l1.map (fun p=>if p.seq=o.seq then g p else p)=l1:=by
  rw[List.map_congr_left (g:=id) (fun p hp=>by have:=h3 p hp o (List.mem_cons_self ..);rw[if_neg (by omega)];rfl),List.map_id]
 have e2:l2.map (fun p=>if p.seq=o.seq then g p else p)=l2:=by
  rw[List.map_congr_left (g:=id) (fun p hp=>by have:=h4 p hp;rw[if_neg (by omega)];rfl),List.map_id]
 rw[e1,e2,if_pos rfl]
theorem donS_at {l1 l2:List Dg} {o o':Dg} (h:Rise (l1++o::l2)) (hs:slot o'=(o.seq,true)):donS ((l1++o::l2).map slot) o.seq=(l1++o'::l2).map slot:=by
 obtain⟨h1,h2,h3⟩:=rise_app.1 h
 obtain⟨h4,_⟩:=rise_cons.1 h2
 unfold donS
 rw[List.map_map,List.map_append,List.map_cons,List.map_append,List.map_cons,hs]
 congr 1
 ·refine List.map_congr_left fun p hp=>?_
  have:=h3 p hp o (List.mem_cons_self ..)
  show(if p.seq=o.seq then _ else _)=_
  rw[if_neg (by omega)]
 ·congr 1
  ·show(if o.seq=o.seq then(o.seq,true)else _)=_
   rw[if_pos rfl]
  ·refine List.map_congr_left fun p hp=>?_
   have:=h4 p hp
   show(if p.seq=o.seq then _ else _)=_
   rw[if_neg (by omega)]
theorem rise_put {l1 l2:List Dg} {o o':Dg} (h:Rise (l1++o::l2)) (e:o'.seq=o.seq):Rise (l1++o'::l2):=by
 unfold Rise at*
 rw[List.map_append,List.map_cons]at*
 rw[e]
 exact h
theorem mE_put {l:List Dg} {o o':Dg} {m:Nat→Int} (h1:o'.rd=o.rd) (h2:o'.to=o.to):mE m (o'::l)=mE m (o::l):=by
 show mE (nm m o') l=mE (nm m o) l
 unfold nm
 rw[h1,h2]
theorem tos_put {l:List Dg} {o o':Dg} (h1:o'.rd=o.rd) (h2:o'.to=o.to):tos (o'::l)=tos (o::l):=by
 rw[tos_cons,tos_cons,h1,h2]
theorem olds_put {l1 l2:List Dg} {o o':Dg} {m:Nat→Int} (h:Olds m (l1++o::l2)) (h1:o'.rd=o.rd) (h2:o'.to=o.to) (h3:o'.old=o.old):Olds m (l1++o'::l2):=by
 rw[olds_app]at*
 refine⟨h.1,fun h0=>by rw[h3,h1];exact h.2.1 (by rw[←h1];exact h0),?_⟩
 have:=h.2.2
 have e:nm (mE m l1) o'=nm (mE m l1) o:=by unfold nm;rw[h1,h2]
 rw[e]
 exact this
def inC (c:Cm) (x:Nat):Prop:=c.pl.toNat≤x∧x<c.pl.toNat+c.many.toNat
def Clear (n:Nat) (wd:Int→Int) (c:Cm) (o:Dg):Prop:=
 (fits n o.pc 4=true→∀k,k<4→¬inC c (o.pc.toNat+k))∧(o.st=2→ldn o.i.op≠0→fits n (place o.i (wd o.a)) (ldn o.i.op)=true→∀k:Nat,(k:Int)<ldn o.i.op→¬inC c ((place o.i (wd o.a)).toNat+k))
theorem not_met {q x many y:Int} {c:Cm} {seq:Int} (hm:c.many=0∨((c.many=1∨c.many=2∨c.many=4)∧0≤c.pl)) (hq:q<seq) (hmany:0≤many∧many≤4) (h:(ovr (stA q c).seq (ldA seq x many)&&Od.mt (stA q c) (ldA seq x many))=false) (k:Nat) (hk:(k:Int)<many) (hx:0≤x):¬inC c (x.toNat+k):=by
 intro⟨h1,h2⟩
 have e1:Od.hs (stA q c) (x+k)=true:=(hs_st (by omega)).2 (by rcases hm with hm|hm<;>omega)
 have e2:Od.hs (ldA seq x many) (x+k)=true:=by
  unfold Od.hs Od.wd
  apply decide_eq_true
  show x≤x+k∧x+k<x+(if many<0 then 0 else if 4<many then 4 else many)
  rw[if_neg (by omega),if_neg (by omega)]
  omega
 have e3:=mt_of e1 e2
 have e4:ovr (stA q c).seq (ldA seq x many)=true:=by
  show(true&&true&&true&&decide (q<seq))=true
  simp[hq]
 rw[e3,e4]at h
 cases h
theorem fits_pos {n:Nat} {x many:Int} (h:fits n x many=true):0≤x∧x%many=0∧x+many≤n:=by simpa[fits]using h
theorem place_rng (i:In) (a:Int):0≤place i a∧place i a<4294967296:=by unfold place;omega
structure Fin1 (M:Mc) (s:Cr) (m:Nat→Int) (l1 l2:List Dg) (o:Dg) (c:Cm) (l2' l3:List Dg) (t:Cr):Prop where
 split:l2=l2'++l3
 is:∃A B F P,t={s with under:=l1++{o with st:=2,c:=c}::l2',slots:=(l1++{o with st:=2,c:=c}::l2').map slot,regs:=mE m (l1++{o with st:=2,c:=c}::l2'),free:=tos l3++s.free,asked:=A,bck:=B,fro:=F,opn:=P}∧As s.n s.wd (l1++{o with st:=2,c:=c}::l2') A∧
  ((l3=[]∧F=s.fro∧P=s.opn)∨(l3≠[]∧P=true∧F=pE s.pc (l1++o::l2')))
 clear:∀q∈l2',Clear s.n s.wd c q
theorem as_put {n:Nat} {wd:Int→Int} {l1 l2:List Dg} {o:Dg} {c:Cm} {k:List Ac} (A:As n wd (l1++o::l2) k) (hs:sts o.i=false) (hl:ldn o.i.op≠0→fits n (place o.i (wd o.a)) (ldn o.i.op)=true→ldA o.seq (place o.i (wd o.a)) (ldn o.i.op)∈k):As n wd (l1++{o with st:=2,c:=c}::l2) k:=by
 have mem:∀p,p∈l1++{o with st:=2,c:=c}::l2→p={o with st:=2,c:=c}∨(p∈l1++o::l2):=fun p hp=>by
  rcases List.mem_append.1 hp with h|h
  ·exact .inr (List.mem_append_left _ h)
  ·rcases List.mem_cons.1 h with h|h
   ·exact .inl h
   ·exact .inr (List.mem_append_right _ (List.mem_cons_of_mem _ h))
 have hom:o∈l1++o::l2:=by simp
 refine⟨fun q hq=>?_,fun p hp=>?_,fun p hp h=>?_,fun p hp h1 h2 h3=>?_⟩
 ·obtain⟨p,hp,e,he⟩:=A.of q hq
  by_cases hpo:p∈l1∨p∈l2
  ·refine⟨p,?_,e,he⟩
   rcases hpo with h|h
   ·exact List.mem_append_left _ h
   ·exact List.mem_append_right _ (List.mem_cons_of_mem _ h)
  ·have:p=o:=by
    rcases List.mem_append.1 hp with h|h
    ·exact absurd (.inl h) hpo
    ·rcases List.mem_cons.1 h with h|h
     ·exact h
     ·exact absurd (.inr h) hpo
   subst this
   refine⟨_,List.mem_append_right _ (List.mem_cons_self ..),e,fun h=>?_⟩
   have:=(he h).1
   rw[hs]at this
   cases this
 ·rcases mem p hp with rfl|h
  ·exact A.own o hom
  ·exact A.own p h
 ·rcases mem p hp with rfl|h'
  ·have h:sts o.i=true:=h
   rw[hs]at h;cases h
  ·exact A.sto p h' h
 ·rcases mem p hp with rfl|h'
  ·exact hl h2 h3
  ·exact A.lod p h' h1 h2 h3
theorem as_set {n:Nat} {wd:Int→Int} {l1 l2:List Dg} {o:Dg} {c:Cm} {k:List Ac} (A:As n wd (l1++o::l2) k) (hr:Rise (l1++o::l2)) (hs:sts o.i=true):As n wd (l1++{o with st:=2,c:=c}::l2) (setA k o.seq (stA o.seq c)):=by
 have mem:∀p,p∈l1++{o with st:=2,c:=c}::l2→p={o with st:=2,c:=c}∨(p∈l1++o::l2∧p.seq≠o.seq):=fun p hp=>by
  obtain⟨h1,h2,h3⟩:=rise_app.1 hr
  obtain⟨h4,_⟩:=rise_cons.1 h2
  rcases List.mem_append.1 hp with h|h
  ·exact .inr ⟨List.mem_append_left _ h,by have:=h3 p h o (List.mem_cons_self ..);omega⟩
  ·rcases List.mem_cons.1 h with h|h
   ·exact .inl h
   ·exact .inr ⟨List.mem_append_right _ (List.mem_cons_of_mem _ h),by have:=h4 p h;omega⟩
 have hom:o∈l1++o::l2:=by simp
 have keep:∀a∈k,¬(a.st=true∧a.seq=o.seq)→a∈setA k o.seq (stA o.seq c):=fun a ha hn=>by
  unfold setA
  exact List.mem_map.2 ⟨a,ha,if_neg hn⟩
 refine⟨fun q hq=>?_,fun p hp=>?_,fun p hp h=>?_,fun p hp h1 h2 h3=>?_⟩
 ·unfold setA at hq
  obtain⟨a,ha,rfl⟩:=List.mem_map.1 hq
  by_cases hc:a.st=true∧a.seq=o.seq
  ·rw[if_pos hc]
   refine⟨_,List.mem_append_right _ (List.mem_cons_self ..),rfl,fun _=>⟨hs,?_⟩⟩
   unfold entA
   exact(if_pos rfl).symm
  ·rw[if_neg hc]
   obtain⟨p,hp,e,he⟩:=A.of a ha
   by_cases hpo:p∈l1∨p∈l2
   ·refine⟨p,?_,e,he⟩
    rcases hpo with h|h
    ·exact List.mem_append_left _ h
    ·exact List.mem_append_right _ (List.mem_cons_of_mem _ h)
   ·have:p=o:=by
     rcases List.mem_append.1 hp with h|h
     ·exact absurd (.inl h) hpo
     ·rcases List.mem_cons.1 h with h|h
      ·exact h
      ·exact absurd (.inr h) hpo
    subst this
    exact⟨_,List.mem_append_right _ (List.mem_cons_self ..),e,fun h=>absurd ⟨h,e⟩ hc⟩
 ·rcases mem p hp with rfl|⟨h,hne⟩
  ·exact keep _ (A.own o hom) (fun h=>by cases h.1)
  ·exact keep _ (A.own p h) (fun h=>by cases h.1)
 ·rcases mem p hp with rfl|⟨h',hne⟩
  ·have h0:=A.sto o hom hs
   unfold setA
   refine List.mem_map.2 ⟨_,h0,?_⟩
   rw[if_pos (by unfold entA;split<;>exact⟨rfl,rfl⟩)]
   unfold entA
   exact(if_pos rfl).symm
  ·refine keep _ (A.sto p h' h) (fun hh=>hne ?_)
   have:=hh.2
   unfold entA at this
   split at this<;>exact this
 ·rcases mem p hp with rfl|⟨h',hne⟩
  ·have h2:ldn o.i.op≠0:=h2
   exact absurd (sts_ldn hs) h2
  ·exact keep _ (A.lod p h' h1 h2 h3) (fun h=>by cases h.1)
theorem as_cut {n:Nat} {wd:Int→Int} {l1 l2:List Dg} {k:List Ac} (A:As n wd (l1++l2) k) (q:Int) (h1:∀o∈l1,o.seq<q) (h2:∀o∈l2,q≤o.seq):As n wd l1 (k.filter (fun a=>!decide (q≤a.seq))):=by
 have keep:∀a∈k,a.seq<q→a∈k.filter (fun a=>!decide (q≤a.seq)):=fun a ha hn=>List.mem_filter.2 ⟨ha,by simp;omega⟩
 refine⟨fun a ha=>?_,fun p hp=>keep _ (A.own p (List.mem_append_left _ hp)) (h1 p hp),fun p hp h=>keep _ (A.sto p (List.mem_append_left _ hp) h) ?_,fun p hp g1 g2 g3=>keep _ (A.lod p (List.mem_append_left _ hp) g1 g2 g3) (h1 p hp)⟩
 ·obtain⟨ha,hq⟩:=List.mem_filter.1 ha
  obtain⟨p,hp,e,he⟩:=A.of a ha
  simp at hq
  rcases List.mem_append.1 hp with h|h
  ·exact⟨p,h,e,he⟩
  ·have:=h2 p h;omega
 ·unfold entA
  split<;>exact h1 p hp
theorem pcOf_at {l1 l2:List Dg} {o:Dg} (h:Rise (l1++o::l2)):pcOf (l1++o::l2) o.seq=o.pc:=by
 unfold pcOf
 obtain⟨h1,h2,h3⟩:=rise_app.1 h
 rw[List.find?_append,List.find?_eq_none.2 (fun p hp=>by have:=h3 p hp o (List.mem_cons_self ..);simp;omega)]
 simp
theorem fin1_ex {M:Mc} (hM:MOk M) {s:Cr} {m:Nat→Int} (I:Inv M s m) {l1 l2:List Dg} {o:Dg} (hu:s.under=l1++o::l2) (h2:o.st≠2) {c:Cm} (hc:CmIs s.n o.i o.pc c)
  (hl:ldn o.i.op≠0→fits s.n (place o.i (s.wd o.a)) (ldn o.i.op)=true→ldA o.seq (place o.i (s.wd o.a)) (ldn o.i.op)∈s.asked):
  ∃l2' l3,Fin1 M s m l1 l2 o c l2' l3 (fin1 s o c):=by
 have hr:Rise (l1++o::l2):=hu▸I.rise
 have hA:As s.n s.wd (l1++o::l2) s.asked:=hu▸I.ask
 have hch:Ch M s.n s.wd s.th s.pc m s.f (l1++o::l2):=hu▸I.ch
 have hru:putO s.under o.seq (fun o=>{o with st:=2,c:=c})=l1++{o with st:=2,c:=c}::l2:=by rw[hu];exact putO_at hr _
 have hsl:donS s.slots o.seq=(l1++{o with st:=2,c:=c}::l2).map slot:=by
  rw[I.slo,hu]
  exact donS_at hr (by show(o.seq,decide ((2:Int)=2))=_;rfl)
 have hmE:mE m (l1++{o with st:=2,c:=c}::l2)=s.regs:=by
  rw[←I.reg,hu,mE_app,mE_app]
  exact mE_put rfl rfl
 by_cases hs:sts o.i=true
 ·obtain⟨A,hAe⟩:∃A,A=setA s.asked o.seq (stA o.seq c):=⟨_,rfl⟩
  have hA1:=as_set (c:=c) hA hr hs
  rw[←hAe]at hA1
  have hcm:c.many=0∨((c.many=1∨c.many=2∨c.many=4)∧0≤c.pl):=by
   rcases hc.many with h|⟨_,h,h',_⟩
   ·exact .inl h
   ·exact .inr ⟨h,h'⟩
  have cl:∀q∈l2,(∀a∈A,a.seq=q.seq→(ovr (stA o.seq c).seq a&&Od.mt (stA o.seq c) a)=false)→Clear s.n s.wd c q:=by
   intro q hq hno
   have hlt:o.seq<q.seq:=(rise_cons.1 (rise_app.1 hr).2.1).1 q hq
   have hqm:q∈l1++{o with st:=2,c:=c}::l2:=List.mem_append_right _ (List.mem_cons_of_mem _ hq)
   refine⟨fun hf k hk=>?_,fun g2 g0 hf k hk=>?_⟩
   ·exact not_met (seq:=q.seq) (many:=4) (y:=0) hcm hlt (by omega) (hno _ (hA1.own q hqm) rfl) k (by omega) (fits_pos hf).1
   ·exact not_met (seq:=q.seq) (y:=0) hcm hlt (ldn_le _) (hno _ (hA1.lod q hqm g2 g0 hf) rfl) k hk (place_rng _ _).1
  have hfin:fin1 s o c=settle {s with under:=l1++{o with st:=2,c:=c}::l2,slots:=(l1++{o with st:=2,c:=c}::l2).map slot} o.seq c:=by
   unfold fin1
   rw[hru,hsl]
   simp only[hs,if_true]
  cases hls:lst A (stA o.seq c) A.length with
  |none=>
   refine⟨l2,[],(List.append_nil _).symm,⟨A,s.bck,s.fro,s.opn,?_,hA1,.inl ⟨rfl,rfl,rfl⟩⟩,fun q hq=>cl q hq fun a ha _=>?_⟩
   ·rw[hfin]
    unfold settle
    simp only[←hAe,hls]
    rw[hmE]
    rfl
   ·obtain⟨j,hj⟩:=List.getElem?_of_mem ha
    exact lst_none hls j a (List.getElem?_eq_some_iff.1 hj).1 hj
  |some e=>
   obtain⟨⟨a,ha,hae,hao⟩,hmin⟩:=lst_some hls
   have hlt:o.seq<e:=by
    rw[Bool.and_eq_true]at hao
    have h3:=hao.1
    unfold ovr at h3
    rw[Bool.and_eq_true,decide_eq_true_iff]at h3
    have h4:o.seq<a.seq:=h3.2
    omega
   have hr':Rise (l1++{o with st:=2,c:=c}::l2):=rise_put (o:=o) hr rfl
   obtain⟨p,hp,hpe,_⟩:=hA1.of a ha
   obtain⟨L1,L2,hL,g1,g2⟩:=rise_split e (rise_cons.1 (rise_app.1 hr).2.1).2
   have hpL:p∈L2:=by
    rcases List.mem_append.1 hp with h|h
    ·have:=(rise_app.1 hr).2.2 p h o (List.mem_cons_self ..);omega
    ·rcases List.mem_cons.1 h with h|h
     ·have:p.seq=o.seq:=by rw[h]
      omega
     ·rw[hL]at h
      rcases List.mem_append.1 h with h|h
      ·have:=g1 p h;omega
      ·exact h
   have hhead:∃L3,L2=p::L3:=by
    cases L2 with
    |nil=>cases hpL
    |cons q L3=>
     have:=g2 q (List.mem_cons_self ..)
     rcases List.mem_cons.1 hpL with h|h
     ·exact⟨L3,by rw[h]⟩
     ·have hq:=(rise_cons.1 (rise_app.1 (hL▸(rise_cons.1 (rise_app.1 hr).2.1).2)).2.1).1 p h
      omega
   obtain⟨L3,rfl⟩:=hhead
   subst hL
   have hbk:Bk {s with under:=l1++{o with st:=2,c:=c}::(L1++p::L3),slots:=(l1++{o with st:=2,c:=c}::(L1++p::L3)).map slot,asked:=A} m:=
    ⟨olds_put (olds_ch hch) rfl rfl rfl,hmE,hr',rfl⟩
   have hpc:pcOf (l1++{o with st:=2,c:=c}::(L1++p::L3)) e=pE s.pc (l1++o::L1):=by
    have hr2:Rise ((l1++{o with st:=2,c:=c}::L1)++p::L3):=by simpa using hr'
    have:=pcOf_at hr2
    rw[hpe.symm.trans hae,List.append_assoc,List.cons_append]at this
    rw[this]
    have hc2:Ch M s.n s.wd s.th s.pc m s.f ((l1++o::L1)++p::L3):=by simpa using hch
    exact(ch_at hc2).hpc
   have hb:=back_at hbk (l1:=l1++{o with st:=2,c:=c}::L1) (l2:=p::L3) (by simp) e (pcOf (l1++{o with st:=2,c:=c}::(L1++p::L3)) e) (fun q hq=>by
    rcases List.mem_append.1 hq with h|h
    ·have:=(rise_app.1 hr).2.2 q h o (List.mem_cons_self ..);omega
    ·rcases List.mem_cons.1 h with h|h
     ·have:q.seq=o.seq:=by rw[h]
      omega
     ·exact g1 q h) g2
   refine⟨L1,p::L3,rfl,⟨A.filter (fun a=>!decide (e≤a.seq)),s.bck+1,pE s.pc (l1++o::L1),true,?_,?_,.inr ⟨by simp,rfl,rfl⟩⟩,fun q hq=>cl q (List.mem_append_left _ hq) fun a' ha' he'=>?_⟩
   ·rw[hfin]
    unfold settle
    simp only[←hAe,hls]
    rw[hb,hpc]
    simp
   ·refine as_cut (l2:=p::L3) (by simpa using hA1) e (fun q hq=>?_) g2
    rcases List.mem_append.1 hq with h|h
    ·have:=(rise_app.1 hr).2.2 q h o (List.mem_cons_self ..);omega
    ·rcases List.mem_cons.1 h with h|h
     ·have:q.seq=o.seq:=by rw[h]
      omega
     ·exact g1 q h
   ·cases hx:(ovr (stA o.seq c).seq a'&&Od.mt (stA o.seq c) a')with
    |false=>rfl
    |true=>
     obtain⟨j,hj⟩:=List.getElem?_of_mem ha'
     have:=hmin j a' (List.getElem?_eq_some_iff.1 hj).1 hj hx
     have:=g1 q hq
     omega
 ·have hs:sts o.i=false:=by simpa using hs
  have hm0:c.many=0:=by
   rcases hc.many with h|⟨h,_⟩
   ·exact h
   ·rw[hs]at h;cases h
  refine⟨l2,[],(List.append_nil _).symm,⟨s.asked,s.bck,s.fro,s.opn,?_,as_put hA hs hl,.inl ⟨rfl,rfl,rfl⟩⟩,fun q hq=>⟨fun _ k _ hin=>?_,fun _ _ _ k _ hin=>?_⟩⟩
  ·unfold fin1
   rw[hru,hsl,hmE]
   simp only[hs]
   rfl
  ·have:=hin;unfold inC at this;rw[hm0]at this;simp at this;omega
  ·have:=hin;unfold inC at this;rw[hm0]at this;simp at this;omega
end Go.Proofs.YtpiohehijkpghacGreatDoor.Co
