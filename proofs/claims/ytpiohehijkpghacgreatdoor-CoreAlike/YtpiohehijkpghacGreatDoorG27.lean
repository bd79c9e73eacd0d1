/- A core's parts, step by step. Plain mathematics. -/
import Derived.Test.YtpiohehijkpghacGreatDoorG24
import Derived.Test.YtpiohehijkpghacGreatDoorG25
namespace Go.Proofs.YtpiohehijkpghacGreatDoor.Co
open Go.RowKit
open Hy
open Wi Od Re.Hy
open Gu.Hy (Tb)
set_option linter.unusedVariables false
set_option linter.unusedSimpArgs false
def Uq (l:List Ac):Prop:=((l.filter (·.st)).map (·.seq)).Nodup
theorem uq_filter {l:List Ac} (h:Uq l) (p:Ac→Bool):Uq (l.filter p):=by
 unfold Uq at*
 exact h.sublist ((List.filter_sublist.filter _).map _)
theorem uq_load {l:List Ac} (h:Uq l) {a:Ac} (ha:a.st=false):Uq (l++[a]):=by
 unfold Uq at*
 rw[List.filter_append,List.filter_cons_of_neg (by simp[ha])]
 simpa using h
theorem uq_set {l:List Ac} (h:Uq l) (q:Int) {e:Ac} (h1:e.st=true) (h2:e.seq=q):Uq (setA l q e):=by
 have key:∀l:List Ac,((setA l q e).filter (·.st)).map (·.seq)=(l.filter (·.st)).map (·.seq):=by
  intro l
  induction l with
  |nil=>rfl
  |cons a l ih=>
   show((((if a.st=true∧a.seq=q then e else a)::setA l q e)).filter (·.st)).map (·.seq)=_
   by_cases hc:a.st=true∧a.seq=q
   ·rw[if_pos hc,List.filter_cons_of_pos h1,List.filter_cons_of_pos hc.1,List.map_cons,List.map_cons,ih,h2,hc.2]
   ·rw[if_neg hc]
    by_cases ha:a.st=true
    ·rw[List.filter_cons_of_pos ha,List.filter_cons_of_pos ha,List.map_cons,List.map_cons,ih]
    ·rw[List.filter_cons_of_neg ha,List.filter_cons_of_neg ha,ih]
 unfold Uq
 rw[key]
 exact h
theorem uq_ask {s:Cr} {o:Dg} (h:Uq s.asked) (hl:∀a∈s.asked,a.seq<o.seq):Uq (askO s o).asked:=by
 have h1:Uq (s.asked++[ownA o]):=uq_load h rfl
 show Uq (s.asked++(ownA o::_))
 split
 ·show Uq (s.asked++[ownA o,st0 o.seq])
  rw[show s.asked++[ownA o,st0 o.seq]=(s.asked++[ownA o])++[st0 o.seq] by simp]
  unfold Uq at*
  rw[List.filter_append,List.filter_cons_of_pos rfl,List.map_append]
  refine List.nodup_append.2 ⟨h1,by simp,fun x hx y hy e=>?_⟩
  obtain⟨a,ha,rfl⟩:=List.mem_map.1 hx
  have hy:y=o.seq:=by simpa[st0]using hy
  obtain⟨ha1,ha2⟩:=List.mem_filter.1 ha
  rcases List.mem_append.1 ha1 with h'|h'
  ·have:=hl a h';omega
  ·rw[List.mem_singleton.1 h']at ha2;cases ha2
 ·exact h1
theorem uq_back {s:Cr} (h:Uq s.asked) (q pc:Int):Uq (back s q pc).asked:=uq_filter h _
theorem uq_settle {s:Cr} (h:Uq s.asked) (q:Int) (c:Cm):Uq (settle s q c).asked:=by
 have h1:Uq (setA s.asked q (stA q c)):=uq_set h q rfl rfl
 unfold settle
 simp only[]
 split
 ·exact h1
 ·exact uq_back (s:={s with asked:=setA s.asked q (stA q c)}) h1 _ _
theorem uq_fin1 {s:Cr} (h:Uq s.asked) (o:Dg) (c:Cm):Uq (fin1 s o c).asked:=by
 unfold fin1
 simp only[]
 split
 ·exact uq_settle (by exact h) _ _
 ·exact h
theorem uq_finish {s:Cr} (h:Uq s.asked) (o:Dg) (c:Cm):Uq (finish s o c).asked:=by
 have h2:Uq (fillC (fin1 s o c) o c).asked:=by rw[fillC_is];exact uq_fin1 h o c
 unfold finish
 split
 ·exact h2
 ·exact uq_back h2 (o.seq+1) c.next
theorem uq_lodS {s:Cr} (h:Uq s.asked) (q:Int):Uq (lodS s q).asked:=by
 unfold lodS
 split
 ·exact h
 ·split
  ·exact h
  ·unfold lod1
   simp only[]
   split
   ·split
    ·exact h
    ·exact uq_finish (s:={s with asked:=_}) (uq_load h rfl) _ _
   ·exact uq_finish h _ _
theorem uq_sta1 {M:Mc} {s:Cr} (h:Uq s.asked) (o:Dg):Uq (sta1 M s o).asked:=by
 unfold sta1
 split
 ·exact h
 ·exact uq_finish h _ _
theorem nam_asked (s:Cr) (o:Dg):(namO s o).1.asked=s.asked:=by unfold namO;split<;>rfl
theorem way_asked (M:Mc) (s:Cr) (o:Dg):(wayO M s o).1.asked=s.asked:=by
 unfold wayO
 split
 ·rfl
 ·split<;>rfl
theorem gue_asked (M:Mc) (s:Cr) (o:Dg):(gueO M s o).1.asked=s.asked:=by
 unfold gueO
 simp only[]
 split
 ·exact way_asked M s o
 ·unfold gueL
  simp only[]
  split
  ·exact way_asked M s o
  ·exact way_asked M s o
theorem uq_tak1 {M:Mc} {s:Cr} (h:Uq s.asked) (hl:∀a∈s.asked,a.seq<s.tak):Uq (tak1 M s).1.asked:=by
 unfold tak1
 split
 ·exact h
 ·split
  ·exact h
  ·have h1:=uq_ask (s:={s with slots:=s.slots++[(s.tak,false)],tak:=s.tak+1}) (o:=newO M s) h hl
   simp only[]
   split
   ·show Uq (namO _ _).1.asked
    rw[nam_asked]
    exact h1
   ·show Uq (gueO M _ _).1.asked
    rw[gue_asked,nam_asked]
    exact h1
theorem inv_low {M:Mc} {s:Cr} {m:Nat→Int} (I:Inv M s m):∀a∈s.asked,a.seq<s.tak:=fun a ha=>by
 obtain⟨o,ho,e,_⟩:=I.ask.of a ha
 have:=I.low o ho
 omega
theorem set_first {l:List Ac} (h:Uq l) {q:Int} {m:Nat} (hm:FirstA (fun a=>a.st&&decide (a.seq=q)) l m) (hlt:m<l.length) (e:Ac):setA l q e=l.set m e:=by
 apply List.ext_getElem?
 intro j
 unfold setA
 rw[List.getElem?_map,List.getElem?_set]
 by_cases hj:m=j
 ·subst hj
  rw[if_pos rfl,if_pos hlt,List.getElem?_eq_getElem hlt]
  have:=hm.yes _ (List.getElem?_eq_getElem hlt)
  simp at this
  show some (if _ then e else _)=_
  rw[if_pos this]
 ·rw[if_neg hj]
  cases hq:l[j]? with
  |none=>rfl
  |some a=>
   show some (if _ then e else a)=some a
   rw[if_neg]
   rintro⟨h1,h2⟩
   rcases Nat.lt_or_ge j m with hlt'|hge
   ·have:=hm.no j a hlt' hq
    simp[h1,h2]at this
   ·have hx:=hm.yes _ (List.getElem?_eq_getElem hlt)
    simp at hx
    obtain⟨l1,l2,hl,hl1⟩:∃l1 l2,l=l1++l[m]::l2∧l1.length=m:=⟨l.take m,l.drop (m+1),by rw[←List.drop_eq_getElem_cons hlt,List.take_append_drop],by rw[List.length_take];omega⟩
    have ha:a∈l2:=by
     rw[hl]at hq
     rw[List.getElem?_append_right (by omega),List.getElem?_cons,if_neg (by omega)]at hq
     exact List.mem_of_getElem? hq
    unfold Uq at h
    rw[hl,List.filter_append,List.filter_cons_of_pos hx.1,List.map_append,List.map_cons]at h
    have:=(List.nodup_cons.1 (List.nodup_append.1 h).2.1).1
    exact this (List.mem_map.2 ⟨a,List.mem_filter.2 ⟨ha,h1⟩,by rw[h2,hx.2]⟩)
theorem sto1_first {l:List Ac} {q:Int} {m:Nat} (hm:FirstA (fun a=>a.st&&decide (a.seq=q)) l m) (hlt:m<l.length) {e:Ac} (h1:e.st=true) (h2:e.kn=true) (h3:e.seq=q):FirstA (sto1 q) (l.set m e) m∧(l.set m e)[m]?=some e:=by
 have he:(l.set m e)[m]?=some e:=by rw[List.getElem?_set,if_pos rfl,if_pos hlt]
 refine⟨⟨by rw[List.length_set];omega,fun j a hj ha=>?_,fun a ha=>?_⟩,he⟩
 ·rw[List.getElem?_set,if_neg (by omega)]at ha
  have:=hm.no j a hj ha
  unfold sto1
  cases h:a.st with
  |false=>rfl
  |true=>rw[h]at this;simp at this;simp[this]
 ·rw[he]at ha
  have:=Option.some.inj ha
  subst this
  simp[sto1,h1,h2,h3]
theorem firstA_at {l:List Ac} {p:Ac→Bool} (h:∃a∈l,p a=true):∃m,FirstA p l m∧m<l.length:=by
 obtain⟨m,hm⟩:=firstA_ex p l
 refine⟨m,hm,Classical.byContradiction fun hn=>?_⟩
 obtain⟨a,ha,hp⟩:=h
 obtain⟨j,hj⟩:=List.getElem?_of_mem ha
 have hjl:=(List.getElem?_eq_some_iff.1 hj).1
 have:=hm.no j a (by omega) hj
 rw[hp]at this
 cases this
theorem put_set {l l1 l2:List Dg} {o:Dg} (hu:l=l1++o::l2) (hr:Rise l) (g:Dg→Dg):putO l o.seq g=l.set l1.length (g o)∧l[l1.length]?=some o:=by
 subst hu
 refine⟨?_,by simp⟩
 rw[putO_at hr,List.set_append_right _ _ (Nat.le_refl _),Nat.sub_self]
 rfl
theorem find_first {l l1 l2:List Dg} {o:Dg} (hu:l=l1++o::l2) (hr:Rise l):FirstD (fun p=>decide (p.seq=o.seq)) l l1.length:=by
 subst hu
 refine⟨by simp,fun j q hj hq=>?_,fun q hq=>?_⟩
 ·rw[List.getElem?_append_left hj]at hq
  have:=(rise_app.1 hr).2.2 q (List.mem_of_getElem? hq) o (List.mem_cons_self ..)
  simp
  omega
 ·rw[List.getElem?_append_right (Nat.le_refl _)]at hq
  simp at hq
  simp[hq]
theorem find_not {l:List Dg} {q:Int} (h:l.find? (fun p=>decide (p.seq=q))=none):FirstD (fun p=>decide (p.seq=q)) l l.length:=by
 refine⟨Nat.le_refl _,fun j p hj hp=>?_,fun p hp=>by simp at hp⟩
 have:=List.find?_eq_none.1 h p (List.mem_of_getElem? hp)
 simpa using this
theorem done_at {l l1 l2:List Dg} {o:Dg} (hu:l=l1++o::l2) (hr:Rise l) (h2:o.st≠2):DonAt (l.map slot) o.seq l1.length:=by
 subst hu
 refine⟨⟨by simp,fun j q hj hq=>?_,fun q hq=>?_⟩,by simp,?_⟩
 ·rw[List.getElem?_map]at hq
  obtain⟨p,hp,rfl⟩:=Option.map_eq_some_iff.1 hq
  rw[List.getElem?_append_left hj]at hp
  have:=(rise_app.1 hr).2.2 p (List.mem_of_getElem? hp) o (List.mem_cons_self ..)
  unfold waits slot
  have e:decide (p.seq=o.seq)=false:=decide_eq_false (by omega)
  simp[e]
 ·rw[List.getElem?_map,List.getElem?_append_right (Nat.le_refl _)]at hq
  simp at hq
  subst hq
  simp[waits,slot,h2]
 ·have:=donS_at hr (o':={o with st:=2}) (by show(o.seq,decide ((2:Int)=2))=_;rfl)
  rw[this,List.map_append,List.map_append,List.set_append_right _ _ (by simp)]
  simp[slot]
theorem push_first {M:Mc} {s:Cr} {m:Nat→Int} (I:Inv M s m):First (above s.tak) s.slots s.slots.length:=by
 refine⟨Nat.le_refl _,fun j q hj hq=>?_,fun q hq=>by simp at hq⟩
 rw[I.slo,List.getElem?_map]at hq
 obtain⟨p,hp,rfl⟩:=Option.map_eq_some_iff.1 hq
 have:=I.low p (List.mem_of_getElem? hp)
 unfold above slot
 exact decide_eq_false (by show¬s.tak≤p.seq;omega)
theorem push_done {l:List Sl} {q:Int} (h:∀p∈l,p.1<q):DonAt (l++[(q,false)]) q l.length:=by
 refine⟨⟨by simp,fun j p hj hp=>?_,fun p hp=>?_⟩,by simp,?_⟩
 ·rw[List.getElem?_append_left hj]at hp
  have:=h p (List.mem_of_getElem? hp)
  unfold waits
  have e:decide (p.1=q)=false:=decide_eq_false (by omega)
  simp[e]
 ·rw[List.getElem?_append_right (Nat.le_refl _)]at hp
  simp at hp
  subst hp
  simp[waits]
 ·rw[donS_new (fun p hp=>by have:=h p hp;omega),List.set_append_right _ _ (Nat.le_refl _),Nat.sub_self]
  rfl
theorem slo_low {M:Mc} {s:Cr} {m:Nat→Int} (I:Inv M s m):∀p∈s.slots,p.1<s.tak:=fun p hp=>by
 rw[I.slo]at hp
 obtain⟨o,ho,rfl⟩:=List.mem_map.1 hp
 exact(I.low o ho).2
theorem dis_names {M:Mc} (hM:MOk M) {s:Cr} {m:Nat→Int} (I:Inv M s m):Dis s.phys s.regs s.free:=by
 have:=Dis.mE (l1:=s.under) (l2:=[]) (fr:=s.free) (m:=m) (by rw[List.append_nil];exact I.dis) (ch_rds hM I.ch)
 rw[I.reg]at this
 exact this
theorem nms_of {M:Mc} (hM:MOk M) {s:Cr} {m:Nat→Int} (I:Inv M s m) (h1:33≤s.phys) (h2:s.phys≤96):Nms s:=⟨h1,h2,dis_names hM I⟩
theorem reads_rng {M:Mc} (hM:MOk M) {s:Cr} {m:Nat→Int} (I:Inv M s m) {o:Dg} (ho:o∈s.under) (h2:s.phys≤96):(0≤o.a∧o.a<96)∧(0≤o.b∧o.b<96)∧o.rd<32∧(o.rd≠0→0≤o.to∧o.to<96):=by
 obtain⟨l1,l2,hu,hloc⟩:=ch_each I.ch ho
 obtain⟨h3,h4,h5⟩:=loc_fld hM hloc
 have hd:=Dis.mE (l1:=l1) (l2:=o::l2) (fr:=s.free) (m:=m) (by rw[←hu];exact I.dis) (fun q hq=>ch_rds hM I.ch q (by rw[hu];exact List.mem_append_left _ hq))
 have ha:=hd.rm _ h4
 have hb:=hd.rm _ h5
 rw[←hloc.a]at ha
 rw[←hloc.b]at hb
 refine⟨⟨ha.1,by omega⟩,⟨hb.1,by omega⟩,h3,fun h0=>?_⟩
 have:=hd.rf o.to (by rw[tos_cons,if_neg h0];simp)
 exact⟨this.1,by omega⟩
theorem undo_one {P:Int} {m:Nat→Int} {o:Dg} {t:List Dg} {fr:List Int} (hd:Dis P m (tos (o::t)++fr)) (hk:o.rd<32) (h0:o.rd≠0) (ho:o.old=m o.rd):
  Dis P (nm m o) (tos t++fr)∧0≤o.old∧o.old<P∧o.old∉tos t++fr∧(∀r,r<32→nm m o r≠o.old)∧up (nm m o) o.rd o.old=m∧nm m o o.rd=o.to:=by
 have hd2:=Dis.nm hd hk
 have hr:=hd.rm _ hk
 have hap:=hd.apart _ hk
 rw[tos_cons,if_neg h0,List.cons_append]at hap hd
 have hnm:nm m o=up m o.rd o.to:=by unfold nm;rw[if_neg h0]
 refine⟨hd2,by rw[ho];exact hr.1,by rw[ho];exact hr.2,fun h=>hap (by rw[←ho];exact List.mem_cons_of_mem _ h),fun r hr' e=>?_,?_,?_⟩
 ·rw[hnm,ho]at e
  unfold Re.Hy.up at e
  split at e
  ·exact hap (by rw[←e];exact List.mem_cons_self ..)
  ·rename_i hne
   exact hne (hd.inj r o.rd hr' hk e)
 ·rw[hnm,ho]
  funext r
  unfold Re.Hy.up
  split
  ·rename_i e;rw[e]
  ·rfl
 ·rw[hnm]
  unfold Re.Hy.up
  rw[if_pos rfl]
theorem goes_of:∀(l:List Sl) (k:Int),Goes l k (goesN l k.toNat)
 |[],k=>⟨by simp[goesN],fun j q h=>by simp[goesN]at h,fun q h=>by simp at h⟩
 |q::l,k=>by
  by_cases hk:0<k
  ·obtain⟨j,hj⟩:∃j:Nat,k.toNat=j+1:=⟨k.toNat-1,by omega⟩
   have ih:=goes_of l (k-1)
   have e:(k-1).toNat=j:=by omega
   rw[e]at ih
   rw[hj]
   unfold goesN
   split
   ·rename_i hq
    refine⟨by have:=ih.le;simp;omega,fun i p hi hp=>?_,fun p hp=>?_⟩
    ·cases i with
     |zero=>simp at hp;subst hp;exact⟨by show(0:Int)<k;omega,hq⟩
     |succ i=>
      have:=ih.go i p (by omega) (by simpa using hp)
      exact⟨by have:=this.1;push_cast;omega,this.2⟩
    ·have:=ih.stop p (by simpa using hp)
     intro⟨h1,h2⟩
     exact this ⟨by push_cast at h1;omega,h2⟩
   ·rename_i hq
    refine⟨by simp,fun i p hi=>absurd hi (by omega),fun p hp=>?_⟩
    simp at hp
    subst hp
    exact fun h=>hq h.2
  ·have e:k.toNat=0:=by omega
   rw[e]
   have e2:goesN (q::l) 0=0:=by simp[goesN]
   rw[e2]
   exact⟨by simp,fun i p hi=>absurd hi (by omega),fun p hp h=>hk (by have:=h.1;simpa using this)⟩
theorem comN_at {M:Mc} (hM:MOk M):∀(k:Nat) (s:Cr) (m:Nat→Int),Inv M s m→k<s.under.length→(∀o∈s.under.take (k+1),o.st=2)→∃m' o l,Inv M (comN M k s) m'∧(comN M k s).under=o::l∧s.under[k]?=some o∧o.st=2
 |0,s,m,I,hk,hd=>by
  cases hu:s.under with
  |nil=>rw[hu]at hk;simp at hk
  |cons o l=>
   refine⟨m,o,l,by rw[comN_zero];exact I,by rw[comN_zero];exact hu,rfl,hd o (by rw[hu];simp)⟩
 |k+1,s,m,I,hk,hd=>by
  cases hu:s.under with
  |nil=>rw[hu]at hk;simp at hk
  |cons o l=>
   have h2:o.st=2:=hd o (by rw[hu];simp)
   have hl:l≠[]:=fun h=>by rw[hu,h]at hk;simp at hk
   have h0:o.c.st=0:=Classical.byContradiction fun h=>by
    have:=I.ch
    rw[hu]at this
    exact hl (this.2.1 ⟨h2,h⟩)
   have I':=pop1_inv hM I hu h2 h0
   rw[comN_succ I hu k]
   obtain⟨m',p,l',g1,g2,g3,g4⟩:=comN_at hM k (pop1 M s o l) (nm m o) I' (by show k<l.length;rw[hu]at hk;simp at hk;omega) (fun q hq=>hd q (by rw[hu,List.take_succ_cons];exact List.mem_cons_of_mem _ hq))
   exact⟨m',p,l',g1,g2,by rw[List.getElem?_cons_succ];exact g3,g4⟩
theorem give_one {P:Int} {m:Nat→Int} {o:Dg} {l:List Dg} {fr:List Int} (hd:Dis P m (tos (o::l)++fr)) (hk:o.rd<32) (h0:o.rd≠0) (ho:o.old=m o.rd):
  0≤o.old∧o.old<P∧o.old∉fr∧∀r,r<32→mE m (o::l) r≠o.old:=by
 have hr:=hd.rm _ hk
 have hap:=hd.apart _ hk
 rw[tos_cons,if_neg h0,List.cons_append]at hap hd
 refine⟨by rw[ho];exact hr.1,by rw[ho];exact hr.2,fun h=>hap (by rw[←ho];exact List.mem_cons_of_mem _ (List.mem_append_right _ h)),fun r hr' e=>?_⟩
 have e2:mE m (o::l)=mE (nm m o) l:=rfl
 rw[e2,ho]at e
 rcases mE_from l (nm m o) r with⟨r',rfl,h⟩|h
 ·rw[h]at e
  unfold nm at e
  rw[if_neg h0]at e
  unfold Re.Hy.up at e
  split at e
  ·exact hap (by rw[←e];exact List.mem_cons_self ..)
  ·rename_i hne
   exact hne (hd.inj r' o.rd hr' hk e)
 ·rw[e]at h
  exact hap (List.mem_cons_of_mem _ (List.mem_append_left _ h))
def MS (M:Mc):Prop:=∀{x i} (pc a b:Int) (n:Nat),M.dcd x=some i→ldn i.op=0→(M.dow i pc a b n).many≠0→sts i=true∧(M.dow i pc a b n).many=stn i.op∧fits n (M.dow i pc a b n).pl (stn i.op)=true
theorem com_sto {M:Mc} (hM:MOk M) (hS:MS M) {s:Cr} {m:Nat→Int} (I:Inv M s m) {o:Dg} {l:List Dg} (hu:s.under=o::l) (h2:o.st=2) (hm:o.c.many≠0):sts o.i=true∧o.c.many=stn o.i.op∧fits s.n o.c.pl (stn o.i.op)=true:=by
 have hloc:=ch_at (l1:=[]) (show Ch M s.n s.wd s.th s.pc m s.f ([]++o::l)from hu▸I.ch)
 by_cases hz:(fet M s.n s.f s.pc).2=0
 ·have hc:=hloc.com h2 hz
  have hin:=hloc.ins
  obtain⟨x,hx⟩:=fet_ok (M:=M) hz
  have hin':o.i=(fet M s.n s.f s.pc).1:=hin
  rw[←hin']at hx
  unfold comC at hc
  split at hc
  ·unfold loadC at hc
   exfalso
   apply hm
   rw[hc]
   split<;>rfl
  ·rename_i h0
   have h0':ldn o.i.op=0:=Classical.byContradiction h0
   rw[hc]at hm⊢
   exact hS _ _ _ _ hx h0' hm
 ·have:=(hloc.bad hz).2
  rw[this]at hm
  exact absurd rfl hm
structure Al (M:Mc) (K:Int) (s:Cr) (m:Nat→Int):Prop where
 inv:Inv M s m
 rg:Rg K s
 uq:Uq s.asked
 low:33≤s.phys
 tak:0≤s.tak
 wid:1≤s.wide
 bck:0≤s.bck
theorem Al.mono {M:Mc} {K K':Int} {s:Cr} {m:Nat→Int} (h:Al M K s m) (hk:K≤K'):Al M K' s m:=⟨h.inv,h.rg.mono hk,h.uq,h.low,h.tak,h.wid,h.bck⟩
theorem Al.nms {M:Mc} (hM:MOk M) {K:Int} {s:Cr} {m:Nat→Int} (h:Al M K s m):Nms s:=nms_of hM h.inv h.low h.rg.phys
theorem Al.len {M:Mc} {K:Int} {s:Cr} {m:Nat→Int} (h:Al M K s m):s.under.length≤32:=by
 have:=h.rg.len
 rw[h.inv.slo,List.length_map]at this
 exact this
structure LoadI (M:Mc) (K:Int) (qs:List Int) (s:Cr) (m:Nat→Int):Prop where
 al:Al M K s m
 nod:qs.Nodup
 are:∀q∈qs,∀o∈s.under,o.seq=q→o.st=1
theorem st1_ld {M:Mc} {s:Cr} {m:Nat→Int} (I:Inv M s m) {o:Dg} (ho:o∈s.under) (h:o.st=1):ldn o.i.op≠0:=by
 obtain⟨l1,l2,hu,hloc⟩:=ch_each I.ch ho
 rcases hloc.sta with e|⟨_,e⟩|e
 ·omega
 ·exact e
 ·omega
theorem st0_in {M:Mc} (hR:MR M) {s:Cr} {m:Nat→Int} (I:Inv M s m) {o:Dg} (ho:o∈s.under) (h:o.st≠2):InOk o.i:=by
 obtain⟨l1,l2,hu,hloc⟩:=ch_each I.ch ho
 by_cases hz:(fet M s.n (fE s.f l1) (pE s.pc l1)).2=0
 ·obtain⟨x,hx⟩:=fet_ok hz
  rw[←hloc.ins]at hx
  exact hR.dcd hx
 ·exact absurd (hloc.bad hz).1 h
theorem Step.al {M:Mc} {K:Int} {s t:Cr} {m:Nat→Int} {l1 l2:List Dg} {o o':Dg} (h:Al M K s m) (S:Step s t l1 l2 o o') (I:Inv M t m) {K':Int} (hR:Rg K' t) (hU:Uq t.asked) (hb:0≤t.bck):Al M K' t m:=
 ⟨I,hR,hU,by rw[S.same.phys];exact h.low,by rw[S.same.tak];exact h.tak,by rw[S.same.wide];exact h.wid,hb⟩
theorem lodS_bck {s:Cr} (q:Int) (h:0≤s.bck):0≤(lodS s q).bck:=by
 unfold lodS
 split
 ·exact h
 ·split
  ·exact h
  ·unfold lod1
   simp only[]
   split
   ·split
    ·exact h
    ·exact finish_bck _ _ _ h
   ·exact finish_bck _ _ _ h
theorem staS_bck {M:Mc} {s:Cr} (q:Int) (h:0≤s.bck):0≤(staS M s q).bck:=by
 unfold staS
 split
 ·exact h
 ·unfold sta1
  split
  ·exact h
  ·exact finish_bck _ _ _ h
theorem LoadI.step {M:Mc} (hM:MOk M) {K:Int} {q:Int} {qs:List Int} {s:Cr} {m:Nat→Int} (h:LoadI M K (q::qs) s m):LoadI M (K+3) qs (lodS s q) m:=by
 obtain⟨hnq,hn2⟩:=List.nodup_cons.1 h.nod
 have hrg:Rg (K+3) (lodS s q):=lodS_rg h.al.rg fun o ho e=>st1_ld h.al.inv ho (h.are q (List.mem_cons_self ..) o ho e)
 have huq:=uq_lodS h.al.uq q
 have hbk:=lodS_bck q h.al.bck
 cases hf:s.under.find? (fun p=>decide (p.seq=q))with
 |none=>
  have e:lodS s q=s:=by unfold lodS;rw[hf]
  rw[e]
  exact⟨h.al.mono (by omega),hn2,fun p hp=>h.are p (List.mem_cons_of_mem _ hp)⟩
 |some o=>
  obtain⟨l1,l2,hu,rfl⟩:=find_some hf
  have h1:=h.are o.seq (List.mem_cons_self ..) o (by rw[hu];simp) rfl
  obtain⟨I',o',S,hs',_⟩:=lodS_inv hM h.al.inv hu h1
  obtain⟨l2',l3,e1,e2⟩:=S.under
  refine⟨S.al h.al I' hrg huq hbk,hn2,fun p hp r hr e=>?_⟩
  refine h.are p (List.mem_cons_of_mem _ hp) r ?_ e
  rw[e2]at hr
  rw[hu,e1]
  rcases List.mem_append.1 hr with h'|h'
  ·exact List.mem_append_left _ h'
  ·rcases List.mem_cons.1 h' with h'|h'
   ·rw[h',hs']at e;exact absurd hp (by rw[←e];exact hnq)
   ·exact List.mem_append_right _ (List.mem_cons_of_mem _ (List.mem_append_left _ h'))
theorem LoadI.begin {M:Mc} {K:Int} {s:Cr} {m:Nat→Int} (h:Al M K s m):LoadI M K ((s.under.filter fun o=>decide (o.st=1)).map (·.seq)) s m:=by
 refine⟨h,seqs_nodup h.inv.rise _,fun q hq o ho e=>?_⟩
 obtain⟨p,hp,rfl⟩:=List.mem_map.1 hq
 obtain⟨hp1,hp2⟩:=List.mem_filter.1 hp
 rw[rise_one h.inv.rise ho hp1 e]
 simpa using hp2
structure StartI (M:Mc) (K:Int) (qs:List Int) (s:Cr) (m:Nat→Int):Prop where
 al:Al M K s m
 nod:qs.Nodup
 are:∀q∈qs,∀o∈s.under,o.seq=q→o.st=0∧s.th o.a=true∧s.th o.b=true
theorem staS_at {M:Mc} {s:Cr} {l1 l2:List Dg} {o:Dg} (hu:s.under=l1++o::l2) (hr:Rise s.under):staS M s o.seq=sta1 M s o:=by
 unfold staS
 rw[hu,find_at (hu▸hr)]
theorem StartI.step {M:Mc} (hM:MOk M) (hR:MR M) {K:Int} {q:Int} {qs:List Int} {s:Cr} {m:Nat→Int} (h:StartI M K (q::qs) s m):StartI M (K+2) qs (staS M s q) m:=by
 obtain⟨hnq,hn2⟩:=List.nodup_cons.1 h.nod
 have hbk:=staS_bck (M:=M) q h.al.bck
 cases hf:s.under.find? (fun p=>decide (p.seq=q))with
 |none=>
  have e:staS M s q=s:=by unfold staS;rw[hf]
  rw[e]
  exact⟨h.al.mono (by omega),hn2,fun p hp=>h.are p (List.mem_cons_of_mem _ hp)⟩
 |some o=>
  obtain⟨l1,l2,hu,rfl⟩:=find_some hf
  have ho:o∈s.under:=by rw[hu];simp
  have h1:=h.are o.seq (List.mem_cons_self ..) o ho rfl
  rw[staS_at hu h.al.inv.rise]at hbk⊢
  obtain⟨I',o',S,hs',_⟩:=sta1_inv hM h.al.inv hu h1.1 h1.2
  obtain⟨l2',l3,e1,e2⟩:=S.under
  refine⟨S.al h.al I' (sta1_rg hR h.al.rg (h.al.rg.und o ho) (st0_in hR h.al.inv ho (by omega))) (uq_sta1 h.al.uq o) hbk,hn2,fun p hp r hr e=>?_⟩
  have hm:r∈s.under:=by
   rw[e2]at hr
   rw[hu,e1]
   rcases List.mem_append.1 hr with h'|h'
   ·exact List.mem_append_left _ h'
   ·rcases List.mem_cons.1 h' with h'|h'
    ·rw[h',hs']at e;exact absurd hp (by rw[←e];exact hnq)
    ·exact List.mem_append_right _ (List.mem_cons_of_mem _ (List.mem_append_left _ h'))
  obtain⟨x1,x2,x3⟩:=h.are p (List.mem_cons_of_mem _ hp) r hm e
  exact⟨x1,S.thr _ x2,S.thr _ x3⟩
theorem al_scr {M:Mc} {K:Int} {s:Cr} {m:Nat→Int} (h:Al M K s m) (k:List Int):Al M K {s with scr:=k} m:=
 ⟨inv_scr h.inv k,⟨h.rg.win,h.rg.phys,h.rg.wide,h.rg.n,h.rg.f,h.rg.tb,h.rg.wd,h.rg.und,h.rg.ask,h.rg.fro,h.rg.len,h.rg.lenA,h.rg.bck,h.rg.tak⟩,h.uq,h.low,h.tak,h.wid,h.bck⟩
theorem StartI.begin {M:Mc} {K:Int} {s:Cr} {m:Nat→Int} (h:Al M K s m) (k:List Int) (j:Nat):StartI M K ((turn s (ready s)).take j) {s with scr:=k} m:=by
 refine⟨al_scr h k,(turn_nodup (seqs_nodup h.inv.rise _)).sublist (List.take_sublist _ _),fun q hq o ho e=>?_⟩
 have hq:=turn_mem.1 (List.mem_of_mem_take hq)
 unfold ready at hq
 obtain⟨p,hp,rfl⟩:=List.mem_map.1 hq
 obtain⟨hp1,hp2⟩:=List.mem_filter.1 hp
 have ho:o∈s.under:=ho
 rw[rise_one h.inv.rise ho hp1 e]
 simp at hp2
 exact⟨hp2.1.1,hp2.1.2,hp2.2⟩
theorem Al.take {M:Mc} (hM:MOk M) (hR:MR M) {K:Int} {s:Cr} {m:Nat→Int} (h:Al M K s m) (ho:s.opn=true):Al M (K+3) (tak1 M s).1 m:=by
 obtain⟨g1,g2,g3,_,_,_,_,_,_,_,_,_,gp,gw,gb,_⟩:=tak1_inv hM h.inv ho h.tak
 have ht:0≤(tak1 M s).1.tak:=by
  have:=h.tak
  by_cases h2:(tak1 M s).2=true
  ·obtain⟨o,_,_,e⟩:=g3 h2;omega
  ·rw[(g2 (by simpa using h2)).1];exact this
 exact⟨g1,tak1_rg hR h.rg,uq_tak1 h.uq (inv_low h.inv),by rw[gp];exact h.low,ht,by rw[gw];exact h.wid,by rw[gb];exact h.bck⟩
theorem uq_comN {M:Mc} {s:Cr} (k:Nat) (h:Uq s.asked):Uq (comN M k s).asked:=uq_filter h _
theorem commit_bck (M:Mc) (s:Cr):(commit M s).bck=s.bck∧(commit M s).tak=s.tak∧(commit M s).wide=s.wide∧(commit M s).phys=s.phys:=by
 have key:∀(l:List Dg) (s:Cr),(l.foldl (com1 M) s).bck=s.bck∧(l.foldl (com1 M) s).tak=s.tak∧(l.foldl (com1 M) s).wide=s.wide∧(l.foldl (com1 M) s).phys=s.phys:=by
  intro l
  induction l with
  |nil=>intro s;exact⟨rfl,rfl,rfl,rfl⟩
  |cons o l ih=>intro s;exact ih (com1 M s o)
 exact key _ s
theorem LoadI.all {M:Mc} (hM:MOk M):∀{qs:List Int} {K:Int} {s:Cr} {m:Nat→Int},LoadI M K qs s m→Al M (K+3*qs.length) (qs.foldl lodS s) m
 |[],K,s,m,h=>h.al.mono (by simp)
 |q::qs,K,s,m,h=>by
  have:=LoadI.all hM (h.step hM)
  rw[List.foldl_cons]
  exact this.mono (by simp;omega)
theorem StartI.all {M:Mc} (hM:MOk M) (hR:MR M):∀{qs:List Int} {K:Int} {s:Cr} {m:Nat→Int},StartI M K qs s m→Al M (K+2*qs.length) (qs.foldl (staS M) s) m
 |[],K,s,m,h=>h.al.mono (by simp)
 |q::qs,K,s,m,h=>by
  have:=StartI.all hM hR (h.step hM hR)
  rw[List.foldl_cons]
  exact this.mono (by simp;omega)
theorem Al.load {M:Mc} (hM:MOk M) {K:Int} {s:Cr} {m:Nat→Int} (h:Al M K s m):Al M (K+96) (load s) m:=by
 have:=(LoadI.begin h).all hM
 refine this.mono ?_
 have h1:=List.length_filter_le (fun o:Dg=>decide (o.st=1)) s.under
 have h2:=h.len
 rw[List.length_map]
 omega
theorem start_is (M:Mc) (s:Cr):∃k,start M s=((turn s (ready s)).take s.wide.toNat).foldl (staS M) {s with scr:=k}∧((if 1<(ready s).length then chS s else s)={s with scr:=k}):=by
 unfold start
 simp only[]
 split
 ·exact⟨s.scr.tail,rfl,rfl⟩
 ·exact⟨s.scr,rfl,rfl⟩
theorem Al.start {M:Mc} (hM:MOk M) (hR:MR M) {K:Int} {s:Cr} {m:Nat→Int} (h:Al M K s m):Al M (K+8) (start M s) m:=by
 obtain⟨k,e,_⟩:=start_is M s
 rw[e]
 refine((StartI.begin h k s.wide.toNat).all hM hR).mono ?_
 have h1:((turn s (ready s)).take s.wide.toNat).length≤s.wide.toNat:=by rw[List.length_take];omega
 have h2:=h.rg.wide
 omega
theorem Al.takes {M:Mc} (hM:MOk M) (hR:MR M):∀(k:Nat) {K:Int} {s:Cr} {m:Nat→Int},Al M K s m→Al M (K+3*k) (takN M k s) m
 |0,K,s,m,h=>h.mono (by omega)
 |k+1,K,s,m,h=>by
  unfold takN
  split
  ·rename_i ho
   split
   ·exact(Al.takes hM hR k (h.take hM hR ho)).mono (by omega)
   ·exact(h.take hM hR ho).mono (by omega)
  ·exact h.mono (by omega)
structure Gd (M:Mc) (h0:Hs) (s:Cr):Prop where
 good:Good M h0 s
 al:s.st=0→∃m,Al M (116*s.cyc) s m
theorem al_commit {M:Mc} (hM:MOk M) (hR:MR M) {h0:Hs} {K:Int} {s:Cr} {m:Nat→Int} (h:Al M K s m) (hs:s.st=0) (hr:Ref M h0 s) (h1:(commit M s).st=0):∃m',Al M K (commit M s) m':=by
 have hk:=goesN_le s.slots (min s.wide (left s)).toNat
 have hlen:goesN s.slots (min s.wide (left s)).toNat≤s.under.length:=by
  have:=hk.2
  rw[h.inv.slo,List.length_map]at this
  rw[h.inv.slo]
  exact this
 have hd:∀o∈s.under.take (goesN s.slots (min s.wide (left s)).toNat),o.st=2:=by
  rw[h.inv.slo]
  exact goesN_done s.under _
 obtain⟨_,_,g3,g4⟩:=comN_inv hM (h:=h0) _ s m h.inv hs hr hlen hd
 obtain⟨m',I'⟩:=g3 h1
 obtain⟨b1,b2,b3,b4⟩:=commit_bck M s
 exact⟨m',I',commit_rg hR h.rg,uq_comN _ h.uq,by rw[b4];exact h.low,by rw[b2];exact h.tak,by rw[b3];exact h.wid,by rw[b1];exact h.bck⟩
theorem al_cyc {M:Mc} {K:Int} {s:Cr} {m:Nat→Int} (h:Al M K s m) (x:Int):Al M K {s with cyc:=x} m:=
 ⟨⟨h.inv.base,h.inv.ch,h.inv.reg,h.inv.en,h.inv.dis,h.inv.cnt,h.inv.rise,h.inv.low,h.inv.slo,h.inv.ask,h.inv.lat⟩,⟨h.rg.win,h.rg.phys,h.rg.wide,h.rg.n,h.rg.f,h.rg.tb,h.rg.wd,h.rg.und,h.rg.ask,h.rg.fro,h.rg.len,h.rg.lenA,h.rg.bck,h.rg.tak⟩,h.uq,h.low,h.tak,h.wid,h.bck⟩
theorem ref_cyc {M:Mc} {h0:Hs} {s:Cr} (h:Ref M h0 s) (x:Int):Ref M h0 {s with cyc:=x}:=⟨h.is,h.coms,h.runs⟩
theorem gd_cycle {M:Mc} (hM:MOk M) (hR:MR M) {h0:Hs} {s:Cr} (G:Gd M h0 s) (hs:s.st=0) (hc6:s.cyc<6000):Gd M h0 (cycle M s):=by
 obtain⟨g1,g2,g3,g4⟩:=cycle_good hM G.good hs hc6
 refine⟨g1,fun h=>?_⟩
 obtain⟨m,A⟩:=G.al hs
 have A1:=al_cyc A (s.cyc+1)
 rw[g2]
 unfold cycle at h⊢
 simp only[]at h⊢
 by_cases h1:(commit M {s with cyc:=s.cyc+1}).st=0
 ·rw[if_pos h1]
  obtain⟨m',A2⟩:=al_commit hM hR A1 hs (ref_cyc G.good.ref _) h1
  have hw:=A.rg.wide
  have hw1:=A.wid
  exact⟨m',((((A2.load hM).start hM hR).takes hM hR s.wide.toNat)).mono (by omega)⟩
 ·rw[if_neg h1]at h
  exact absurd h h1
theorem gd_begin {M:Mc} (hM:MOk M) (win phys wide:Int) (n:Nat) (R:Nat→Int) (pc st ca:Int) (f:Nat→Int) (scr:List Int) (hw:1≤win) (hw2:win≤32) (hp:33≤phys) (hp2:phys≤96) (hwi:1≤wide) (hwi2:wide≤4) (hn:n≤4096) (hf:∀i,i<n→0≤f i∧f i≤255) (hR:∀i,i<32→U32 (R i)) (hpc:U32 pc):Gd M ⟨R,pc,st,ca,f⟩ (begin win phys wide n R pc st ca f scr):=by
 have g:=begin_good (M:=M) win phys wide n R pc st ca f scr hw hp hp2 hwi
 refine⟨g,fun h=>?_⟩
 obtain⟨m,I⟩:=g.inv h
 exact⟨m,I,begin_rg win phys wide n R pc st ca f scr hw2 hp2 hwi2 hn hf hR hpc,List.nodup_nil,hp,Int.le_refl _,hwi,Int.le_refl _⟩
end Go.Proofs.YtpiohehijkpghacGreatDoor.Co
