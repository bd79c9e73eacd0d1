/- A core's cycles: what is committed is what one does that takes one instruction after the other, and it goes on. Plain mathematics. -/
import Derived.Test.YtpiohehijkpghabGreatDoorS28
set_option linter.unusedSimpArgs false
set_option linter.unusedVariables false
namespace Go.Proofs.YtpiohehijkpghabGreatDoor.Co
open Go.RowKit
open Hy
open Wi Od Re.Hy
open Gu.Hy (Tb)
structure Hs where
 R:Nat->Int
 pc:Int
 st:Int
 ca:Int
 f:Nat->Int
def hsC(M:Mc)(n:Nat)(h:Hs):Cm:=zbd M n h.R h.pc h.f
def hsN(M:Mc)(n:Nat)(h:Hs):Hs:=⟨updC h.R (hsC M n h),(hsC M n h).next,(hsC M n h).st,(hsC M n h).ca,stoC h.f (hsC M n h)⟩
def hsAt(M:Mc)(n:Nat)(h:Hs):Nat->Hs
 |0=>h
 |k+1=>hsN M n (hsAt M n h k)
structure Ref(M:Mc)(h:Hs)(s:Cr):Prop where
 is:(⟨s.R,s.pc,s.st,s.ca,s.f⟩:Hs)=hsAt M s.n h s.coms.length
 coms:s.coms=(List.range s.coms.length).map fun j=>hsC M s.n (hsAt M s.n h j)
 runs:∀j,j<s.coms.length->(hsAt M s.n h j).st=0
def pop1(M:Mc)(s:Cr)(o:Dg)(l:List Dg):Cr:={com1 M s o with slots:=s.slots.drop 1,under:=l,asked:=s.asked.filter fun q=>!decide (q.seq=o.seq)}
theorem zjN{M:Mc}(hM:MOk M){s:Cr}{m:Nat->Int}(I:Inv M s m){o:Dg}{l:List Dg}(hu:s.under=o::l)(h2:o.st=2):o.c=zbd M s.n s.R s.pc s.f:=by
 have hloc:=zad (l1:=[]) (show Ch M s.n s.wd s.th s.pc m s.f ([]++o::l)from hu▸I.ch)
 have hloc:Loc M s.n s.wd s.th s.pc m s.f o:=hloc
 obtain⟨_,hra,hrb⟩:=yf hM hloc
 unfold zbd
 split
 ·rename_i hz
  exact(hloc.bad hz).2
 ·rename_i hz
  have hz:(fet M s.n s.f s.pc).2=0:=by simpa using hz
  rw[hloc.com h2 hz,hloc.a,hloc.b,(I.base _ hra).2,(I.base _ hrb).2,hloc.ins]
theorem zet{M:Mc}(hM:MOk M){s:Cr}{m:Nat->Int}(I:Inv M s m){o:Dg}{l:List Dg}(hu:s.under=o::l)(h2:o.st=2)(h0:o.c.st=0):Inv M (pop1 M s o l) (nm m o):=by
 have hch:Loc M s.n s.wd s.th s.pc m s.f o/\(stp o->l=[])/\Ch M s.n s.wd s.th (nx o) (nm m o) (nf s.f o) l:=by
  have:=I.ch
  rw[hu]at this
  exact this
 obtain⟨hloc,_,htail⟩:=hch
 have hcm:=zkI hM hloc h2
 have hrd:o.c.rd=o.rd:=by rw[hcm.gives h0,hloc.rd]
 have hr32:=(yf hM hloc).1
 have hd:Dis s.phys m (tos (o::l)++s.free):=hu▸I.dis
 have hd1:=Dis.nm hd hr32
 have hcnt:32+((tos (o::l)++s.free).length:Int)=s.phys:=hu▸I.cnt
 have hns:¬stp o:=fun h=>h.2 h0
 have hr:Rise (o::l):=hu▸I.rise
 obtain⟨hr1,hr2⟩:=zV.1 hr
 have hA:As s.n s.wd (o::l) s.asked:=hu▸I.ask
 refine⟨fun r hr=>?_,?_,?_,?_,?_,?_,hr2,fun q hq=>I.low q (by rw[hu];exact List.mem_cons_of_mem _ hq),?_,?_,fun q hq=>I.lat q (by rw[hu];exact List.mem_cons_of_mem _ hq)⟩
 ·show s.th (nm m o r)=true/\s.wd (nm m o r)=updC s.R o.c r
  unfold nm updC
  rw[hrd]
  split
  ·exact I.base r hr
  ·rename_i hz
   by_cases e:r=o.rd
   ·subst e
    rw[zfE,zfE]
    exact hloc.fil h2 h0 hz
   ·rw[zjD e,zjD e];exact I.base r hr
 ·show Ch M s.n s.wd s.th o.c.next (nm m o) (stoC s.f o.c) l
  have e1:nx o=o.c.next:=if_pos h2
  have e2:nf s.f o=stoC s.f o.c:=if_pos h2
  rw[<-e1,<-e2]
  exact htail
 ·show mE (nm m o) l=s.regs
  rw[<-I.reg,hu]
  rfl
 ·have e1:nx o=o.c.next:=if_pos h2
  rcases I.en with⟨g1,g2,g3⟩|⟨g1,l0,q,g2,g3⟩
  ·left
   refine⟨g1,?_,fun q hq=>g3 q (by rw[hu];exact List.mem_cons_of_mem _ hq)⟩
   show s.fro=pE o.c.next l
   rw[g2,hu,<-e1]
   rfl
  ·right
   refine⟨g1,?_⟩
   rw[hu]at g2
   cases l0 with
   |nil=>
    simp at g2
    rw[<-g2.1]at g3
    exact absurd g3 hns
   |cons x l0=>
    simp at g2
    exact⟨l0,q,g2.2,g3⟩
 ·show Dis s.phys (nm m o) (tos l++(if o.rd=0 then s.free else s.free++[o.old]))
  split
  ·exact hd1
  ·rename_i hz
   have hold:=hloc.old hz
   rw[zT,if_neg hz]at hd
   have hm:m o.rd∉o.to::tos l++s.free:=hd.apart _ hr32
   refine⟨hd1.inj,?_,fun r hr hin=>?_,hd1.rm,fun x hx=>?_⟩
   ·rw[<-List.append_assoc,List.nodup_append]
    refine⟨hd1.nod,by simp,fun a ha b hb e=>hm ?_⟩
    rw[List.mem_singleton.1 hb,hold]at e
    rw[<-e]
    exact List.mem_cons_of_mem _ ha
   ·rw[<-List.append_assoc]at hin
    rcases List.mem_append.1 hin with h|h
    ·exact hd1.apart r hr h
    ·have h:=List.mem_singleton.1 h
     rw[hold]at h
     unfold nm at h
     rw[if_neg hz]at h
     by_cases e:r=o.rd
     ·subst e
      rw[zfE]at h
      exact hm (by rw[<-h];simp)
     ·rw[zjD e]at h
      exact e (hd.inj r o.rd hr hr32 h)
   ·rw[<-List.append_assoc]at hx
    rcases List.mem_append.1 hx with h|h
    ·exact hd1.rf x h
    ·rw[List.mem_singleton.1 h,hold]
     exact hd.rm _ hr32
 ·show 32+((tos l++(if o.rd=0 then s.free else s.free++[o.old])).length:Int)=s.phys
  rw[zT]at hcnt
  split
  ·rename_i hz;rw[if_pos hz]at hcnt;exact hcnt
  ·rename_i hz;rw[if_neg hz]at hcnt;rw[<-hcnt];simp;omega
 ·show s.slots.drop 1=l.map slot
  rw[I.slo,hu]
  rfl
 ·show As s.n s.wd l (s.asked.filter fun q=>!decide (q.seq=o.seq))
  have keep:∀a∈s.asked,a.seq≠o.seq->a∈s.asked.filter fun q=>!decide (q.seq=o.seq):=fun a ha hn=>List.mem_filter.2 ⟨ha,by simp[hn]⟩
  have hne:∀p∈l,p.seq≠o.seq:=fun p hp=>by have:=hr1 p hp;omega
  refine⟨fun q hq=>?_,fun p hp=>keep _ (hA.own p (List.mem_cons_of_mem _ hp)) (hne p hp),fun p hp h=>keep _ (hA.sto p (List.mem_cons_of_mem _ hp) h) ?_,fun p hp g1 g2 g3=>keep _ (hA.lod p (List.mem_cons_of_mem _ hp) g1 g2 g3) (hne p hp)⟩
  ·obtain⟨hq1,hq2⟩:=List.mem_filter.1 hq
   obtain⟨p,hp,e,he⟩:=hA.of q hq1
   simp at hq2
   rcases List.mem_cons.1 hp with h|h
   ·rw[h]at e;exact absurd e hq2
   ·exact⟨p,h,e,he⟩
  ·unfold entA
   split<;>exact hne p hp
theorem zjO{M:Mc}(hM:MOk M){s:Cr}{m:Nat->Int}(I:Inv M s m){o:Dg}{l:List Dg}(hu:s.under=o::l)(h2:o.st=2)(hs:s.st=0){h:Hs}(hR:Ref M h s):Ref M h (pop1 M s o l):=by
 have hc:=zjN hM I hu h2
 have hc':o.c=hsC M s.n (hsAt M s.n h s.coms.length):=by
  rw[<-hR.is]
  exact hc
 have hlen:(s.coms++[o.c]).length=s.coms.length+1:=by simp
 refine⟨?_,?_,fun j hj=>?_⟩
 ·show(⟨updC s.R o.c,o.c.next,o.c.st,o.c.ca,stoC s.f o.c⟩:Hs)=hsAt M s.n h (s.coms++[o.c]).length
  rw[hlen]
  show _=hsN M s.n (hsAt M s.n h s.coms.length)
  unfold hsN
  rw[<-hc',<-hR.is]
 ·show s.coms++[o.c]=(List.range (s.coms++[o.c]).length).map fun j=>hsC M s.n (hsAt M s.n h j)
  rw[hlen,List.range_succ,List.map_append,<-hR.coms,hc']
  rfl
 ·have hj:j<(s.coms++[o.c]).length:=hj
  rw[hlen]at hj
  by_cases e:j=s.coms.length
  ·subst e
   show(hsAt M s.n h s.coms.length).st=0
   rw[<-hR.is]
   exact hs
  ·exact hR.runs j (by omega)
def comN(M:Mc)(k:Nat)(s:Cr):Cr:=
 {(s.under.take k).foldl (com1 M) s with slots:=s.slots.drop k,under:=s.under.drop k,asked:=s.asked.filter fun q=>!decide (q.seq∈(s.slots.take k).map (·.1))}
def cutC(s:Cr)(sl:List Sl)(un:List Dg)(ak:List Ac):Cr:={s with slots:=sl,under:=un,asked:=ak}
theorem zcs(M:Mc)(sl:List Sl)(un:List Dg)(ak:List Ac):∀(l:List Dg) (s:Cr),l.foldl (com1 M) (cutC s sl un ak)=cutC (l.foldl (com1 M) s) sl un ak
 |[],s=>rfl
 |o::l,s=>by
  rw[List.foldl_cons,List.foldl_cons]
  exact zcs M sl un ak l (com1 M s o)
theorem zct{M:Mc}{s:Cr}{m:Nat->Int}(I:Inv M s m){o:Dg}{l:List Dg}(hu:s.under=o::l)(k:Nat):comN M (k+1) s=comN M k (pop1 M s o l):=by
 have hsl:s.slots=slot o::l.map slot:=by rw[I.slo,hu];rfl
 have e:s.asked.filter (fun q=>!decide (q.seq∈(s.slots.take (k+1)).map (·.1)))=(s.asked.filter fun q=>!decide (q.seq=o.seq)).filter fun q=>!decide (q.seq∈((s.slots.drop 1).take k).map (·.1)):=by
  rw[List.filter_filter,hsl]
  refine List.filter_congr fun q _=>?_
  have:(slot o).1=o.seq:=rfl
  rw[Bool.and_comm]
  simp[this]
 have e1:comN M (k+1) s=cutC ((s.under.take (k+1)).foldl (com1 M) s) (s.slots.drop (k+1)) (s.under.drop (k+1)) (s.asked.filter fun q=>!decide (q.seq∈(s.slots.take (k+1)).map (·.1))):=rfl
 have e2:comN M k (pop1 M s o l)=cutC ((l.take k).foldl (com1 M) (cutC (com1 M s o) (s.slots.drop 1) l (s.asked.filter fun q=>!decide (q.seq=o.seq)))) ((s.slots.drop 1).drop k) (l.drop k) ((s.asked.filter fun q=>!decide (q.seq=o.seq)).filter fun q=>!decide (q.seq∈((s.slots.drop 1).take k).map (·.1))):=rfl
 rw[e1,e2,zcs,e,hu,List.take_succ_cons,List.foldl_cons,List.drop_succ_cons,List.drop_drop]
 rw[Nat.add_comm 1 k]
 rfl
structure Stay(s t:Cr):Prop where
 win:t.win=s.win
 phys:t.phys=s.phys
 wide:t.wide=s.wide
 n:t.n=s.n
 cyc:t.cyc=s.cyc
 tak:t.tak=s.tak
 bck:t.bck=s.bck
 scr:t.scr=s.scr
theorem ju(M:Mc)(s:Cr):comN M 0 s=s:=by
 have e:s.asked.filter (fun q=>!decide (q.seq∈(s.slots.take 0).map (·.1)))=s.asked:=List.filter_eq_self.2 fun q _=>by simp
 show cutC _ _ _ _=_
 rw[e]
 rfl
theorem zbn{M:Mc}(hM:MOk M){h:Hs}:∀(k:Nat) (s:Cr) (m:Nat->Int),Inv M s m->s.st=0->Ref M h s->k<=s.under.length->(∀o∈s.under.take k,o.st=2)->
  Ref M h (comN M k s)/\(comN M k s).coms.length=s.coms.length+k/\((comN M k s).st=0->∃m',Inv M (comN M k s) m')/\Stay s (comN M k s)
 |0,s,m,I,hs,hR,_,_=>by
  rw[ju]
  exact⟨hR,rfl,fun _=>⟨m,I⟩,rfl,rfl,rfl,rfl,rfl,rfl,rfl,rfl⟩
 |k+1,s,m,I,hs,hR,hk,hd=>by
  cases hu:s.under with
  |nil=>rw[hu]at hk;simp at hk
  |cons o l=>
   have h2:o.st=2:=hd o (by rw[hu];simp)
   have hR':=zjO hM I hu h2 hs hR
   rw[zct I hu k]
   have hl1:(pop1 M s o l).coms.length=s.coms.length+1:=by show(s.coms++[o.c]).length=_;simp
   by_cases h0:o.c.st=0
   ·have I':=zet hM I hu h2 h0
    obtain⟨g1,g2,g3,g4⟩:=zbn hM k (pop1 M s o l) (nm m o) I' h0 hR' (by show k<=l.length;rw[hu]at hk;simp at hk;omega) (fun q hq=>hd q (by rw[hu,List.take_succ_cons];exact List.mem_cons_of_mem _ hq))
    exact⟨g1,by rw[g2,hl1];omega,g3,g4.win,g4.phys,g4.wide,g4.n,g4.cyc,g4.tak,g4.bck,g4.scr⟩
   ·have hl:l=[]:=by
     have:=I.ch
     rw[hu]at this
     exact this.2.1 ⟨h2,h0⟩
    subst hl
    rw[hu]at hk
    simp at hk
    subst hk
    rw[ju]
    exact⟨hR',hl1,fun h=>absurd h h0,rfl,rfl,rfl,rfl,rfl,rfl,rfl,rfl⟩
theorem yI:∀(l:List Sl) (k:Nat),qW l k<=k/\qW l k<=l.length
 |[],k=>by simp[qW]
 |q::l,0=>by simp[qW]
 |q::l,k+1=>by
  have:=yI l k
  unfold qW
  split
  ·simp;omega
  ·simp
theorem xA:∀(l:List Dg) (k:Nat),∀o∈l.take (qW (l.map slot) k),o.st=2
 |[],k,o,h=>by simp at h
 |q::l,0,o,h=>by simp[qW]at h
 |q::l,k+1,o,h=>by
  rw[List.map_cons]at h
  unfold qW at h
  split at h
  ·rename_i hq
   rw[List.take_succ_cons]at h
   rcases List.mem_cons.1 h with h|h
   ·rw[h];simpa[slot]using hq
   ·exact xA l k o h
  ·simp at h
theorem zdz{o:Dg}{l:List Dg}{k:Nat}(h:o.st=2)(hk:0<k):0<qW ((o::l).map slot) k:=by
 obtain⟨j,rfl⟩:∃j,k=j+1:=⟨k-1,by omega⟩
 rw[List.map_cons]
 unfold qW
 simp[slot,h]
structure Keep(s t:Cr):Prop where
 win:t.win=s.win
 phys:t.phys=s.phys
 wide:t.wide=s.wide
 n:t.n=s.n
 coms:t.coms=s.coms
 R:t.R=s.R
 pc:t.pc=s.pc
 st:t.st=s.st
 ca:t.ca=s.ca
 f:t.f=s.f
 cyc:t.cyc=s.cyc
theorem Keep.refl(s:Cr):Keep s s:=⟨rfl,rfl,rfl,rfl,rfl,rfl,rfl,rfl,rfl,rfl,rfl⟩
theorem Keep.trans{a b c:Cr}(h:Keep a b)(k:Keep b c):Keep a c:=
 ⟨k.win.trans h.win,k.phys.trans h.phys,k.wide.trans h.wide,k.n.trans h.n,k.coms.trans h.coms,k.R.trans h.R,k.pc.trans h.pc,k.st.trans h.st,k.ca.trans h.ca,k.f.trans h.f,k.cyc.trans h.cyc⟩
theorem Same.keep{s t:Cr}(h:Same s t):Keep s t:=⟨h.win,h.phys,h.wide,h.n,h.coms,h.R,h.pc,h.st,h.ca,h.f,h.cyc⟩
theorem zhK{M:Mc}(hM:MOk M){s:Cr}{m:Nat->Int}(I:Inv M s m)(ho:s.opn=true)(htak:0<=s.tak):Keep s (tak1 M s).1:=by
 obtain⟨_,_,_,h1,h2,h3,h4,h5,h6,h7,h8,h9,h10,h11,_⟩:=yH hM I ho htak
 exact⟨h9,h10,h11,h7,h1,h2,h3,h4,h5,h6,h8⟩
theorem zbo{M:Mc}(hM:MOk M):∀(k:Nat) (s:Cr) (m:Nat->Int),Inv M s m->0<=s.tak->Inv M (takN M k s) m/\Keep s (takN M k s)/\0<=(takN M k s).tak/\(takN M k s).bck=s.bck/\∀h l,s.under=h::l->∃l',(takN M k s).under=h::l'
 |0,s,m,I,ht=>⟨I,Keep.refl s,ht,rfl,fun h l e=>⟨l,e⟩⟩
 |k+1,s,m,I,ht=>by
  unfold takN
  by_cases ho:s.opn=true
  ·rw[if_pos ho]
   have hk:=zhK hM I ho ht
   obtain⟨g1,g2,g3,_,_,_,_,_,_,_,_,_,_,_,gb,_⟩:=yH hM I ho ht
   by_cases h2:(tak1 M s).2=true
   ·rw[if_pos h2]
    obtain⟨o,e1,e2,e3⟩:=g3 h2
    obtain⟨f1,f2,f3,f4,f5⟩:=zbo hM k (tak1 M s).1 m g1 (by rw[e3];omega)
    refine⟨f1,hk.trans f2,f3,f4.trans gb,fun h l e=>?_⟩
    exact f5 h (l++[o]) (by rw[e1,e];rfl)
   ·rw[if_neg h2]
    obtain⟨e1,_⟩:=g2 (by simpa using h2)
    refine⟨g1,hk,by rw[e1];exact ht,by rw[e1],fun h l e=>⟨l,by rw[e1];exact e⟩⟩
  ·rw[if_neg ho]
   exact⟨I,Keep.refl s,ht,rfl,fun h l e=>⟨l,e⟩⟩
theorem zfJ{M:Mc}(hM:MOk M){k:Nat}(hk:0<k){s:Cr}{m:Nat->Int}(I:Inv M s m)(ht:0<=s.tak)(hu:s.under=[])(hw:1<=s.win)(hp:33<=s.phys):∃h l,(takN M k s).under=h::l/\mu h<=12:=by
 obtain⟨j,rfl⟩:∃j,k=j+1:=⟨k-1,by omega⟩
 have ho:s.opn=true:=by
  rcases I.en with⟨h,_⟩|⟨_,l,o,h,_⟩
  ·exact h
  ·rw[hu]at h;simp at h
 unfold takN
 rw[if_pos ho]
 obtain⟨g1,g2,g3,_⟩:=yH hM I ho ht
 by_cases h2:(tak1 M s).2=true
 ·rw[if_pos h2]
  obtain⟨o,e1,e2,e3⟩:=g3 h2
  obtain⟨_,_,_,_,f5⟩:=zbo hM j (tak1 M s).1 m g1 (by rw[e3];omega)
  obtain⟨l',hl⟩:=f5 o [] (by rw[e1,hu];rfl)
  exact⟨o,l',hl,e2⟩
 ·obtain⟨_,h⟩:=g2 (by simpa using h2)
  rcases h with h|h
  ·rw[I.slo,hu]at h;simp at h;omega
  ·have:=I.cnt
   rw[hu,h]at this
   simp[tos]at this
   omega
theorem zkL{M:Mc}{s:Cr}{m:Nat->Int}(I:Inv M s m){h:Dg}(hh:h∈s.under):1<=mu h/\mu h<=12:=by
 have:=I.lat h hh
 unfold mu
 split
 ·omega
 ·split<;>omega
structure Good(M:Mc)(h0:Hs)(s:Cr):Prop where
 ref:Ref M h0 s
 inv:s.st=0->∃m,Inv M s m
 tak:0<=s.tak
 bck:0<=s.bck
 cyc:0<=s.cyc
 win:1<=s.win
 phys:33<=s.phys
 wide:1<=s.wide
 many:(s.coms.length:Int)<=s.cyc*s.wide
 most:(s.coms.length:Int)<=2000
 goes:100<=s.coms.length\/s.cyc<=13*s.coms.length+12
 first:s.st=0->100<=s.coms.length\/(s.under=[]/\s.cyc=0)\/∃h l,s.under=h::l/\s.cyc<=13*s.coms.length+13-mu h
theorem zeu(s:Cr)(q pc:Int)(h:0<=s.bck):0<=(back s q pc).bck:=by
 unfold back
 simp only[]
 split<;>omega
theorem zfK(s:Cr)(q:Int)(c:Cm)(h:0<=s.bck):0<=(settle s q c).bck:=by
 unfold settle
 simp only[]
 split
 ·exact h
 ·exact zeu _ _ _ h
theorem jk(s:Cr)(o:Dg)(c:Cm)(h:0<=s.bck):0<=(finish s o c).bck:=by
 have h1:0<=(fin1 s o c).bck:=by
  unfold fin1
  simp only[]
  split
  ·exact zfK _ _ _ h
  ·exact h
 have h2:0<=(jc (fin1 s o c) o c).bck:=by rw[jY];exact h1
 unfold finish
 split
 ·exact h2
 ·exact zeu _ (o.seq+1) c.next h2
theorem zbp(g:Cr->Int->Cr)(hg:∀s q,0<=s.bck->0<=(g s q).bck):∀(l:List Int) (s:Cr),0<=s.bck->0<=(l.foldl g s).bck
 |[],s,h=>h
 |q::l,s,h=>zbp g hg l (g s q) (hg s q h)
theorem zjP(s:Cr)(h:0<=s.bck):0<=(load s).bck:=by
 refine zbp lodS (fun s q h=>?_) _ _ h
 unfold lodS
 split
 ·exact h
 ·split
  ·exact h
  ·unfold lod1
   simp only[]
   split
   ·split
    ·exact h
    ·exact jk _ _ _ h
   ·exact jk _ _ _ h
theorem zhL(M:Mc)(s:Cr)(h:0<=s.bck):0<=(start M s).bck:=by
 unfold start
 simp only[]
 refine zbp (staS M) (fun s q h=>?_) _ _ (by split<;>exact h)
 unfold staS
 split
 ·exact h
 ·unfold sta1
  split
  ·exact h
  ·exact jk _ _ _ h
theorem zjQ{M:Mc}{h0:Hs}{s:Cr}(G:Good M h0 s)(hc:s.coms.length<100):1<=min s.wide (left {s with cyc:=s.cyc+1}):=by
 have h1:=G.wide
 have h2:=G.cyc
 unfold left
 simp only[]
 omega
theorem zjR{M:Mc}{h0:Hs}{s t:Cr}(h:Ref M h0 s)(k:Keep s t):Ref M h0 t:=by
 obtain⟨a,b,c⟩:=h
 refine⟨?_,?_,?_⟩
 ·rw[k.R,k.pc,k.st,k.ca,k.f,k.n,k.coms];exact a
 ·rw[k.n,k.coms];exact b
 ·rw[k.n,k.coms];exact c
theorem yj{M:Mc}(hM:MOk M){h0:Hs}{s:Cr}(G:Good M h0 s)(hs:s.st=0)(hc6:s.cyc<6000):Good M h0 (cycle M s)/\(cycle M s).cyc=s.cyc+1/\(cycle M s).wide=s.wide/\(cycle M s).n=s.n:=by
 obtain⟨m,I⟩:=G.inv hs
 obtain⟨s0,hs0⟩:∃s0:Cr,s0={s with cyc:=s.cyc+1}:=⟨_,rfl⟩
 have I0:Inv M s0 m:=by rw[hs0];exact⟨I.base,I.ch,I.reg,I.en,I.dis,I.cnt,I.rise,I.low,I.slo,I.ask,I.lat⟩
 have R0:Ref M h0 s0:=by rw[hs0];exact⟨G.ref.is,G.ref.coms,G.ref.runs⟩
 have hst0:s0.st=0:=by rw[hs0];exact hs
 obtain⟨k,hk⟩:∃k,k=qW s0.slots (min s0.wide (left s0)).toNat:=⟨_,rfl⟩
 have hcom:commit M s0=comN M k s0:=by rw[hk];rfl
 have hkl:=yI s0.slots (min s0.wide (left s0)).toNat
 rw[<-hk]at hkl
 have hkd:∀o∈s0.under.take k,o.st=2:=by rw[hk,I0.slo];exact xA _ _
 obtain⟨c1,c2,c3,c4⟩:=zbn hM k s0 m I0 hst0 R0 (by rw[I0.slo]at hkl;simpa using hkl.2) hkd
 have hcyc:(comN M k s0).cyc=s.cyc+1:=by rw[c4.cyc,hs0]
 have hwide:(comN M k s0).wide=s.wide:=by rw[c4.wide,hs0]
 have hn:(comN M k s0).n=s.n:=by rw[c4.n,hs0]
 have hlen:(comN M k s0).coms.length=s.coms.length+k:=by rw[c2,hs0]
 have htak:0<=(comN M k s0).tak:=by rw[c4.tak,hs0];exact G.tak
 have hbck:0<=(comN M k s0).bck:=by rw[c4.bck,hs0];exact G.bck
 have hwin:1<=(comN M k s0).win:=by rw[c4.win,hs0];exact G.win
 have hphys:33<=(comN M k s0).phys:=by rw[c4.phys,hs0];exact G.phys
 have g1:=G.wide
 have g2:=G.cyc
 have g3:=G.many
 have hleft:left s0=2000-s.coms.length-(6000-(s.cyc+1))/30:=by rw[hs0];rfl
 have hw0:s0.wide=s.wide:=by rw[hs0]
 rw[hw0,hleft]at hkl
 have hmany:((s.coms.length+k:Nat):Int)<=(s.cyc+1)*s.wide:=by
  have:(s.cyc+1)*s.wide=s.cyc*s.wide+s.wide:=by rw[Int.add_mul,Int.one_mul]
  omega
 have g5:=G.most
 have hmost:((s.coms.length+k:Nat):Int)<=2000:=by omega
 have hgoes:100<=s.coms.length+k\/s.cyc+1<=13*(s.coms.length+k:Nat)+12\/k=0:=by
  rcases G.goes with h|h
  ·exact .inl (by omega)
  ·by_cases hk0:k=0
   ·exact .inr (.inr hk0)
   ·exact .inr (.inl (by omega))
 unfold cycle
 simp only[]
 rw[<-hs0,hcom]
 split
 ·rename_i hrun
  obtain⟨m',I'⟩:=c3 hrun
  obtain⟨a1,a2,a3,a4,a5,a6⟩:=zeq hM I'
  obtain⟨b1,b2,b3,b4,b5⟩:=zcr hM a1 (by rw[a2.wide,hwide];exact g1)
  have hkeep1:Keep (comN M k s0) (start M (load (comN M k s0))):=a2.keep.trans b2.keep
  have htk:0<=(start M (load (comN M k s0))).tak:=by rw[b2.tak,a2.tak];exact htak
  obtain⟨d1,d2,d3,d4,d5⟩:=zbo hM s.wide.toNat (start M (load (comN M k s0))) m' b1 htk
  have hkeep:=hkeep1.trans d2
  obtain⟨T,hT⟩:∃T,T=takN M s.wide.toNat (start M (load (comN M k s0))):=⟨_,rfl⟩
  rw[<-hT]at d1 d2 d3 d4 d5 hkeep⊢
  have hTc:T.coms.length=s.coms.length+k:=by rw[hkeep.coms,hlen]
  have hTb:0<=T.bck:=by rw[d4];exact zhL M _ (zjP _ hbck)
  have key:100<=s.coms.length+k\/∃h l,T.under=h::l/\s.cyc+1<=13*(s.coms.length+k:Nat)+13-mu h:=by
   by_cases h100:100<=s.coms.length+k
   ·exact .inl h100
   right
   cases hu:(comN M k s0).under with
   |nil=>
    have hu2:(start M (load (comN M k s0))).under=[]:=b4 (a5 hu)
    obtain⟨h,l,e1,e2⟩:=zfJ hM (k:=s.wide.toNat) (by omega) b1 htk hu2 (by rw[b2.win,a2.win];exact hwin) (by rw[b2.phys,a2.phys];exact hphys)
    rw[<-hT]at e1
    refine⟨h,l,e1,?_⟩
    by_cases hk0:k=0
    ·rcases G.first hs with g|⟨_,g⟩|⟨x,y,g,_⟩
     ·omega
     ·omega
     ·have:(comN M k s0).under=s.under:=by rw[hk0,ju,hs0]
      rw[this,g]at hu
      cases hu
    ·have:=G.goes;omega
   |cons h l=>
    obtain⟨h1,l1,e1,e2,e3⟩:=a6 h l hu
    obtain⟨h2,l2,e4,e5,e6⟩:=b5 h1 l1 e1
    obtain⟨l3,e7⟩:=d5 h2 l2 e4
    have r2:=zkL d1 (h:=h2) (by rw[e7];simp)
    refine⟨h2,l3,e7,?_⟩
    by_cases hk0:k=0
    ·have hsu:(comN M k s0).under=s.under:=by rw[hk0,ju,hs0]
     rw[hsu]at hu
     rcases G.first hs with g|⟨g,_⟩|⟨x,y,g,g'⟩
     ·omega
     ·rw[g]at hu;cases hu
     ·have hxh:x=h/\y=l:=by rw[g]at hu;simpa using hu
      obtain⟨rfl,rfl⟩:=hxh
      have hne2:x.st≠2:=fun h2'=>by
       have hp:=zjQ G (by omega)
       have:0<qW s0.slots (min s0.wide (left s0)).toNat:=by
        rw[I0.slo,show s0.under=x::y by rw[hs0];exact g]
        refine zdz h2' ?_
        rw[<-hs0,show s.wide=s0.wide by rw[hs0]]at hp
        omega
       omega
      have hloc:=(show Loc M s.n s.wd s.th s.pc m s.f x from(by have:=I.ch;rw[g]at this;exact this.1))
      have hlt:mu h2<mu x:=by
       rcases hloc.sta with h0'|⟨h1',_⟩|h2'
       ·have:=e2 (by omega)
        subst this
        exact e6 h0'
       ·have l1':=e3 h1'
        by_cases h0':h1.st=0
        ·have:=e6 h0';omega
        ·rw[e5 h0'];exact l1'
       ·exact absurd h2' hne2
      omega
    ·have:=G.goes;omega
  refine⟨⟨zjR c1 hkeep,fun _=>⟨m',d1⟩,d3,hTb,?_,?_,?_,?_,?_,?_,?_,fun _=>?_⟩,?_,?_,?_⟩
  ·rw[hkeep.cyc,hcyc];omega
  ·rw[hkeep.win];exact hwin
  ·rw[hkeep.phys];exact hphys
  ·rw[hkeep.wide,hwide];exact g1
  ·rw[hTc,hkeep.cyc,hkeep.wide,hcyc,hwide];exact hmany
  ·rw[hTc];exact hmost
  ·rw[hTc,hkeep.cyc,hcyc]
   rcases key with h|⟨h,l,e,h'⟩
   ·exact .inl h
   ·have:=zkL d1 (h:=h) (by rw[e];simp)
    exact .inr (by omega)
  ·rw[hTc,hkeep.cyc,hcyc]
   rcases key with h|h
   ·exact .inl h
   ·exact .inr (.inr h)
  ·rw[hkeep.cyc,hcyc]
  ·rw[hkeep.wide,hwide]
  ·rw[hkeep.n,hn]
 ·rename_i hrun
  have hk0:k≠0:=fun h=>by
   apply hrun
   rw[h,ju]
   exact hst0
  refine⟨⟨c1,fun h=>absurd h hrun,htak,hbck,by rw[hcyc];omega,hwin,hphys,by rw[hwide];exact g1,by rw[hlen,hcyc,hwide];exact hmany,by rw[hlen];exact hmost,?_,fun h=>absurd h hrun⟩,hcyc,hwide,hn⟩
  rw[hlen,hcyc]
  rcases hgoes with h|h|h
  ·exact .inl h
  ·exact .inr h
  ·exact absurd h hk0
theorem zcu{M:Mc}(hM:MOk M){h0:Hs}:∀(k:Nat) (s:Cr),Good M h0 s->s.cyc+k<=6000->Good M h0 (runN M k s)/\(runN M k s).cyc<=s.cyc+k/\((runN M k s).st=0->(runN M k s).cyc=s.cyc+k)/\(runN M k s).wide=s.wide/\(runN M k s).n=s.n
 |0,s,G,_=>⟨G,by show s.cyc<=_;omega,fun _=>by show s.cyc=_;omega,rfl,rfl⟩
 |k+1,s,G,h=>by
  unfold runN
  by_cases hs:s.st=0
  ·rw[if_pos hs]
   obtain⟨G',e1,e2,e3⟩:=yj hM G hs (by omega)
   obtain⟨f1,f2,f3,f4,f5⟩:=zcu hM k (cycle M s) G' (by rw[e1];omega)
   exact⟨f1,by rw[e1]at f2;omega,fun h=>by rw[f3 h,e1];omega,f4.trans e2,f5.trans e3⟩
  ·rw[if_neg hs]
   exact⟨G,by omega,fun h=>absurd h hs,rfl,rfl⟩
theorem zay{M:Mc}(win phys wide:Int)(n:Nat)(R:Nat->Int)(pc st ca:Int)(f:Nat->Int)(scr:List Int)(hw:1<=win)(hp:33<=phys)(hp2:phys<=96)(hwi:1<=wide):Good M ⟨R,pc,st,ca,f⟩ (begin win phys wide n R pc st ca f scr):=by
 refine⟨⟨rfl,rfl,fun j hj=>absurd hj (by show¬j<0;omega)⟩,fun _=>⟨fun i=>i,?_⟩,Int.le_refl 0,Int.le_refl 0,Int.le_refl 0,hw,hp,hwi,?_,?_,.inr ?_,fun _=>.inr (.inl ⟨rfl,rfl⟩)⟩
 ·refine⟨fun r hr=>?_,trivial,rfl,.inl ⟨rfl,rfl,(fun o h=>by cases h)⟩,⟨fun r r' _ _ e=>by omega,?_,fun r hr hm=>?_,fun r hr=>by show 0<=(r:Int)/\(r:Int)<phys;omega,fun x hx=>?_⟩,?_,by simp[Rise,begin],(fun o h=>by cases h),rfl,⟨(fun q h=>by cases h),(fun o h=>by cases h),(fun o h=>by cases h),(fun o h=>by cases h)⟩,(fun o h=>by cases h)⟩
  ·show decide ((r:Int)<32)=true/\(if(r:Int)<32 then R (r:Int).toNat else 0)=R r
   refine⟨decide_eq_true (by omega),?_⟩
   rw[if_pos (by omega)]
   simp
  ·show((List.range (phys.toNat-32)).map (fun i:Nat=>32+(i:Int))).Nodup
   exact(List.nodup_range.map _ (fun a b hab e=>hab (by omega)))
  ·have hm:(r:Int)∈(List.range (phys.toNat-32)).map (fun i:Nat=>32+(i:Int)):=hm
   obtain⟨i,_,e⟩:=List.mem_map.1 hm
   omega
  ·have hx:x∈(List.range (phys.toNat-32)).map (fun i:Nat=>32+(i:Int)):=hx
   obtain⟨i,hi,e⟩:=List.mem_map.1 hx
   have:=List.mem_range.1 hi
   show 0<=x/\x<phys
   omega
  ·show 32+((([]:List Int)++(List.range (phys.toNat-32)).map (fun i:Nat=>32+(i:Int))).length:Int)=phys
   simp
   omega
 ·show((0:Nat):Int)<=0*wide
  simp
 ·show((0:Nat):Int)<=2000
  omega
 ·show(0:Int)<=13*((0:Nat):Int)+12
  omega
end Go.Proofs.YtpiohehijkpghabGreatDoor.Co
