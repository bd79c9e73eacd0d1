/- What a form writes into a word. -/
import Derived.Test.YtpiohehijkpghacGreatDoorRows
import Derived.WalkKit
import Derived.WalkSpells
import Derived.WalkLawsBesides
import Derived.Laws.BitsAllLaws
import Derived.Laws.Bits64
import Derived.Below
import Derived.Deep.RegionHeld3
import Derived.Deep.DrawnRows
import Derived.Deep.DeepMust
import Derived.OpenShut
import Derived.Deep.QuietTactic
import Derived.BigQuiet
import Derived.Deep.WholeRow
import Derived.Laws.Rows
import Derived.Laws.Tables
import Derived.Test.YtpiohehijkpghacGreatDoorG07
import Derived.Test.YtpiohehijkpghacGreatDoorG01
import Derived.Test.YtpiohehijkpghacGreatDoorG02
set_option maxHeartbeats 1000000
namespace Go.Proofs.YtpiohehijkpghacGreatDoor.Co
open Go.RowKit
open Hy
open Wi Od Re.Hy
open Gu.Hy (Tb)
set_option linter.unusedVariables false
set_option linter.unusedSimpArgs false
structure Keep (s t:Cr):Prop where
 win:t.win=s.win
 phys:t.phys=s.phys
 wide:t.wide=s.wide
 n:t.n=s.n
 coms:t.coms=s.coms
 R:t.R=s.R
 pc:t.pc=s.pc
 st:t.st=s.st
 ca:t.ca=s.ca
 f:t.f=s.f
 cyc:t.cyc=s.cyc
theorem Keep.refl (s:Cr):Keep s s:=⟨rfl,rfl,rfl,rfl,rfl,rfl,rfl,rfl,rfl,rfl,rfl⟩
theorem Keep.trans {a b c:Cr} (h:Keep a b) (k:Keep b c):Keep a c:=
 ⟨k.win.trans h.win,k.phys.trans h.phys,k.wide.trans h.wide,k.n.trans h.n,k.coms.trans h.coms,k.R.trans h.R,k.pc.trans h.pc,k.st.trans h.st,k.ca.trans h.ca,k.f.trans h.f,k.cyc.trans h.cyc⟩
theorem Same.keep {s t:Cr} (h:Same s t):Keep s t:=⟨h.win,h.phys,h.wide,h.n,h.coms,h.R,h.pc,h.st,h.ca,h.f,h.cyc⟩
theorem tak1_keep {M:Mc} (hM:MOk M) {s:Cr} {m:Nat→Int} (I:Inv M s m) (ho:s.opn=true) (htak:0≤s.tak):Keep s (tak1 M s).1:=by
 obtain⟨_,_,_,h1,h2,h3,h4,h5,h6,h7,h8,h9,h10,h11,_⟩:=tak1_inv hM I ho htak
 exact⟨h9,h10,h11,h7,h1,h2,h3,h4,h5,h6,h8⟩
theorem takN_inv {M:Mc} (hM:MOk M):∀(k:Nat) (s:Cr) (m:Nat→Int),Inv M s m→0≤s.tak→Inv M (takN M k s) m∧Keep s (takN M k s)∧0≤(takN M k s).tak∧(takN M k s).bck=s.bck∧∀h l,s.under=h::l→∃l',(takN M k s).under=h::l'
 |0,s,m,I,ht=>⟨I,Keep.refl s,ht,rfl,fun h l e=>⟨l,e⟩⟩
 |k+1,s,m,I,ht=>by
  unfold takN
  by_cases ho:s.opn=true
  ·rw[if_pos ho]
   have hk:=tak1_keep hM I ho ht
   obtain⟨g1,g2,g3,_,_,_,_,_,_,_,_,_,_,_,gb,_⟩:=tak1_inv hM I ho ht
   by_cases h2:(tak1 M s).2=true
   ·rw[if_pos h2]
    obtain⟨o,e1,e2,e3⟩:=g3 h2
    obtain⟨f1,f2,f3,f4,f5⟩:=takN_inv hM k (tak1 M s).1 m g1 (by rw[e3];omega)
    refine⟨f1,hk.trans f2,f3,f4.trans gb,fun h l e=>?_⟩
    exact f5 h (l++[o]) (by rw[e1,e];rfl)
   ·rw[if_neg h2]
    obtain⟨e1,_⟩:=g2 (by simpa using h2)
    refine⟨g1,hk,by rw[e1];exact ht,by rw[e1],fun h l e=>⟨l,by rw[e1];exact e⟩⟩
  ·rw[if_neg ho]
   exact⟨I,Keep.refl s,ht,rfl,fun h l e=>⟨l,e⟩⟩
theorem takN_first {M:Mc} (hM:MOk M) {k:Nat} (hk:0<k) {s:Cr} {m:Nat→Int} (I:Inv M s m) (ht:0≤s.tak) (hu:s.under=[]) (hw:1≤s.win) (hp:33≤s.phys):∃h l,(takN M k s).under=h::l∧mu h≤12:=by
 obtain⟨j,rfl⟩:∃j,k=j+1:=⟨k-1,by omega⟩
 have ho:s.opn=true:=by
  rcases I.en with⟨h,_⟩|⟨_,l,o,h,_⟩
  ·exact h
  ·rw[hu]at h;simp at h
 unfold takN
 rw[if_pos ho]
 obtain⟨g1,g2,g3,_⟩:=tak1_inv hM I ho ht
 by_cases h2:(tak1 M s).2=true
 ·rw[if_pos h2]
  obtain⟨o,e1,e2,e3⟩:=g3 h2
  obtain⟨_,_,_,_,f5⟩:=takN_inv hM j (tak1 M s).1 m g1 (by rw[e3];omega)
  obtain⟨l',hl⟩:=f5 o [] (by rw[e1,hu];rfl)
  exact⟨o,l',hl,e2⟩
 ·obtain⟨_,h⟩:=g2 (by simpa using h2)
  rcases h with h|h
  ·rw[I.slo,hu]at h;simp at h;omega
  ·have:=I.cnt
   rw[hu,h]at this
   simp[tos]at this
   omega
theorem mu_rng {M:Mc} {s:Cr} {m:Nat→Int} (I:Inv M s m) {h:Dg} (hh:h∈s.under):1≤mu h∧mu h≤12:=by
 have:=I.lat h hh
 unfold mu
 split
 ·omega
 ·split<;>omega
structure Good (M:Mc) (h0:Hs) (s:Cr):Prop where
 ref:Ref M h0 s
 inv:s.st=0→∃m,Inv M s m
 tak:0≤s.tak
 bck:0≤s.bck
 cyc:0≤s.cyc
 win:1≤s.win
 phys:33≤s.phys
 wide:1≤s.wide
 many:(s.coms.length:Int)≤s.cyc*s.wide
 most:(s.coms.length:Int)≤2000
 goes:100≤s.coms.length∨s.cyc≤13*s.coms.length+12
 first:s.st=0→100≤s.coms.length∨(s.under=[]∧s.cyc=0)∨∃h l,s.under=h::l∧s.cyc≤13*s.coms.length+13-mu h
theorem back_bck (s:Cr) (q pc:Int) (h:0≤s.bck):0≤(back s q pc).bck:=by
 unfold back
 simp only[]
 split<;>omega
theorem settle_bck (s:Cr) (q:Int) (c:Cm) (h:0≤s.bck):0≤(settle s q c).bck:=by
 unfold settle
 simp only[]
 split
 ·exact h
 ·exact back_bck _ _ _ h
theorem finish_bck (s:Cr) (o:Dg) (c:Cm) (h:0≤s.bck):0≤(finish s o c).bck:=by
 have h1:0≤(fin1 s o c).bck:=by
  unfold fin1
  simp only[]
  split
  ·exact settle_bck _ _ _ h
  ·exact h
 have h2:0≤(fillC (fin1 s o c) o c).bck:=by rw[fillC_is];exact h1
 unfold finish
 split
 ·exact h2
 ·exact back_bck _ (o.seq+1) c.next h2
theorem fold_bck (g:Cr→Int→Cr) (hg:∀s q,0≤s.bck→0≤(g s q).bck):∀(l:List Int) (s:Cr),0≤s.bck→0≤(l.foldl g s).bck
 |[],s,h=>h
 |q::l,s,h=>fold_bck g hg l (g s q) (hg s q h)
theorem load_bck (s:Cr) (h:0≤s.bck):0≤(load s).bck:=by
 refine fold_bck lodS (fun s q h=>?_) _ _ h
 unfold lodS
 split
 ·exact h
 ·split
  ·exact h
  ·unfold lod1
   simp only[]
   split
   ·split
    ·exact h
    ·exact finish_bck _ _ _ h
   ·exact finish_bck _ _ _ h
theorem start_bck (M:Mc) (s:Cr) (h:0≤s.bck):0≤(start M s).bck:=by
 unfold start
 simp only[]
 refine fold_bck (staS M) (fun s q h=>?_) _ _ (by split<;>exact h)
 unfold staS
 split
 ·exact h
 ·unfold sta1
  split
  ·exact h
  ·exact finish_bck _ _ _ h
theorem left_pos {M:Mc} {h0:Hs} {s:Cr} (G:Good M h0 s) (hc:s.coms.length<100):1≤min s.wide (left {s with cyc:=s.cyc+1}):=by
 have h1:=G.wide
 have h2:=G.cyc
 unfold left
 simp only[]
 omega
theorem ref_keep {M:Mc} {h0:Hs} {s t:Cr} (h:Ref M h0 s) (k:Keep s t):Ref M h0 t:=by
 obtain⟨a,b,c⟩:=h
 refine⟨?_,?_,?_⟩
 ·rw[k.R,k.pc,k.st,k.ca,k.f,k.n,k.coms];exact a
 ·rw[k.n,k.coms];exact b
 ·rw[k.n,k.coms];exact c
theorem cycle_good {M:Mc} (hM:MOk M) {h0:Hs} {s:Cr} (G:Good M h0 s) (hs:s.st=0) (hc6:s.cyc<6000):Good M h0 (cycle M s)∧(cycle M s).cyc=s.cyc+1∧(cycle M s).wide=s.wide∧(cycle M s).n=s.n:=by
 obtain⟨m,I⟩:=G.inv hs
 obtain⟨s0,hs0⟩:∃s0:Cr,s0={s with cyc:=s.cyc+1}:=⟨_,rfl⟩
 have I0:Inv M s0 m:=by rw[hs0];exact⟨I.base,I.ch,I.reg,I.en,I.dis,I.cnt,I.rise,I.low,I.slo,I.ask,I.lat⟩
 have R0:Ref M h0 s0:=by rw[hs0];exact⟨G.ref.is,G.ref.coms,G.ref.runs⟩
 have hst0:s0.st=0:=by rw[hs0];exact hs
 obtain⟨k,hk⟩:∃k,k=goesN s0.slots (min s0.wide (left s0)).toNat:=⟨_,rfl⟩
 have hcom:commit M s0=comN M k s0:=by rw[hk];rfl
 have hkl:=goesN_le s0.slots (min s0.wide (left s0)).toNat
 rw[←hk]at hkl
 have hkd:∀o∈s0.under.take k,o.st=2:=by rw[hk,I0.slo];exact goesN_done _ _
 obtain⟨c1,c2,c3,c4⟩:=comN_inv hM k s0 m I0 hst0 R0 (by rw[I0.slo]at hkl;simpa using hkl.2) hkd
 have hcyc:(comN M k s0).cyc=s.cyc+1:=by rw[c4.cyc,hs0]
 have hwide:(comN M k s0).wide=s.wide:=by rw[c4.wide,hs0]
 have hn:(comN M k s0).n=s.n:=by rw[c4.n,hs0]
 have hlen:(comN M k s0).coms.length=s.coms.length+k:=by rw[c2,hs0]
 have htak:0≤(comN M k s0).tak:=by rw[c4.tak,hs0];exact G.tak
 have hbck:0≤(comN M k s0).bck:=by rw[c4.bck,hs0];exact G.bck
 have hwin:1≤(comN M k s0).win:=by rw[c4.win,hs0];exact G.win
 have hphys:33≤(comN M k s0).phys:=by rw[c4.phys,hs0];exact G.phys
 have g1:=G.wide
 have g2:=G.cyc
 have g3:=G.many
 have hleft:left s0=2000-s.coms.length-(6000-(s.cyc+1))/30:=by rw[hs0];rfl
 have hw0:s0.wide=s.wide:=by rw[hs0]
 rw[hw0,hleft]at hkl
 have hmany:((s.coms.length+k:Nat):Int)≤(s.cyc+1)*s.wide:=by
  have:(s.cyc+1)*s.wide=s.cyc*s.wide+s.wide:=by rw[Int.add_mul,Int.one_mul]
  omega
 have g5:=G.most
 have hmost:((s.coms.length+k:Nat):Int)≤2000:=by omega
 have hgoes:100≤s.coms.length+k∨s.cyc+1≤13*(s.coms.length+k:Nat)+12∨k=0:=by
  rcases G.goes with h|h
  ·exact .inl (by omega)
  ·by_cases hk0:k=0
   ·exact .inr (.inr hk0)
   ·exact .inr (.inl (by omega))
 unfold cycle
 simp only[]
 rw[←hs0,hcom]
 split
 ·rename_i hrun
  obtain⟨m',I'⟩:=c3 hrun
  obtain⟨a1,a2,a3,a4,a5,a6⟩:=load_inv hM I'
  obtain⟨b1,b2,b3,b4,b5⟩:=start_inv hM a1 (by rw[a2.wide,hwide];exact g1)
  have hkeep1:Keep (comN M k s0) (start M (load (comN M k s0))):=a2.keep.trans b2.keep
  have htk:0≤(start M (load (comN M k s0))).tak:=by rw[b2.tak,a2.tak];exact htak
  obtain⟨d1,d2,d3,d4,d5⟩:=takN_inv hM s.wide.toNat (start M (load (comN M k s0))) m' b1 htk
  have hkeep:=hkeep1.trans d2
  obtain⟨T,hT⟩:∃T,T=takN M s.wide.toNat (start M (load (comN M k s0))):=⟨_,rfl⟩
  rw[←hT]at d1 d2 d3 d4 d5 hkeep⊢
  have hTc:T.coms.length=s.coms.length+k:=by rw[hkeep.coms,hlen]
  have hTb:0≤T.bck:=by rw[d4];exact start_bck M _ (load_bck _ hbck)
  have key:100≤s.coms.length+k∨∃h l,T.under=h::l∧s.cyc+1≤13*(s.coms.length+k:Nat)+13-mu h:=by
   by_cases h100:100≤s.coms.length+k
   ·exact .inl h100
   right
   cases hu:(comN M k s0).under with
   |nil=>
    have hu2:(start M (load (comN M k s0))).under=[]:=b4 (a5 hu)
    obtain⟨h,l,e1,e2⟩:=takN_first hM (k:=s.wide.toNat) (by omega) b1 htk hu2 (by rw[b2.win,a2.win];exact hwin) (by rw[b2.phys,a2.phys];exact hphys)
    rw[←hT]at e1
    refine⟨h,l,e1,?_⟩
    by_cases hk0:k=0
    ·rcases G.first hs with g|⟨_,g⟩|⟨x,y,g,_⟩
     ·omega
     ·omega
     ·have:(comN M k s0).under=s.under:=by rw[hk0,comN_zero,hs0]
      rw[this,g]at hu
      cases hu
    ·have:=G.goes;omega
   |cons h l=>
    obtain⟨h1,l1,e1,e2,e3⟩:=a6 h l hu
    obtain⟨h2,l2,e4,e5,e6⟩:=b5 h1 l1 e1
    obtain⟨l3,e7⟩:=d5 h2 l2 e4
    have r2:=mu_rng d1 (h:=h2) (by rw[e7];simp)
    refine⟨h2,l3,e7,?_⟩
    by_cases hk0:k=0
    ·have hsu:(comN M k s0).under=s.under:=by rw[hk0,comN_zero,hs0]
     rw[hsu]at hu
     rcases G.first hs with g|⟨g,_⟩|⟨x,y,g,g'⟩
     ·omega
     ·rw[g]at hu;cases hu
     ·have hxh:x=h∧y=l:=by rw[g]at hu;simpa using hu
      obtain⟨rfl,rfl⟩:=hxh
      have hne2:x.st≠2:=fun h2'=>by
       have hp:=left_pos G (by omega)
       have:0<goesN s0.slots (min s0.wide (left s0)).toNat:=by
        rw[I0.slo,show s0.under=x::y by rw[hs0];exact g]
        refine goesN_first h2' ?_
        rw[←hs0,show s.wide=s0.wide by rw[hs0]]at hp
        omega
       omega
      have hloc:=(show Loc M s.n s.wd s.th s.pc m s.f x from(by have:=I.ch;rw[g]at this;exact this.1))
      have hlt:mu h2<mu x:=by
       rcases hloc.sta with h0'|⟨h1',_⟩|h2'
       ·have:=e2 (by omega)
        subst this
        exact e6 h0'
       ·have l1':=e3 h1'
        by_cases h0':h1.st=0
        ·have:=e6 h0';omega
        ·rw[e5 h0'];exact l1'
       ·exact absurd h2' hne2
      omega
    ·have:=G.goes;omega
  refine⟨⟨ref_keep c1 hkeep,fun _=>⟨m',d1⟩,d3,hTb,?_,?_,?_,?_,?_,?_,?_,fun _=>?_⟩,?_,?_,?_⟩
  ·rw[hkeep.cyc,hcyc];omega
  ·rw[hkeep.win];exact hwin
  ·rw[hkeep.phys];exact hphys
  ·rw[hkeep.wide,hwide];exact g1
  ·rw[hTc,hkeep.cyc,hkeep.wide,hcyc,hwide];exact hmany
  ·rw[hTc];exact hmost
  ·rw[hTc,hkeep.cyc,hcyc]
   rcases key with h|⟨h,l,e,h'⟩
   ·exact .inl h
   ·have:=mu_rng d1 (h:=h) (by rw[e];simp)
    exact .inr (by omega)
  ·rw[hTc,hkeep.cyc,hcyc]
   rcases key with h|h
   ·exact .inl h
   ·exact .inr (.inr h)
  ·rw[hkeep.cyc,hcyc]
  ·rw[hkeep.wide,hwide]
  ·rw[hkeep.n,hn]
 ·rename_i hrun
  have hk0:k≠0:=fun h=>by
   apply hrun
   rw[h,comN_zero]
   exact hst0
  refine⟨⟨c1,fun h=>absurd h hrun,htak,hbck,by rw[hcyc];omega,hwin,hphys,by rw[hwide];exact g1,by rw[hlen,hcyc,hwide];exact hmany,by rw[hlen];exact hmost,?_,fun h=>absurd h hrun⟩,hcyc,hwide,hn⟩
  rw[hlen,hcyc]
  rcases hgoes with h|h|h
  ·exact .inl h
  ·exact .inr h
  ·exact absurd h hk0
theorem runN_good {M:Mc} (hM:MOk M) {h0:Hs}:∀(k:Nat) (s:Cr),Good M h0 s→s.cyc+k≤6000→Good M h0 (runN M k s)∧(runN M k s).cyc≤s.cyc+k∧((runN M k s).st=0→(runN M k s).cyc=s.cyc+k)∧(runN M k s).wide=s.wide∧(runN M k s).n=s.n
 |0,s,G,_=>⟨G,by show s.cyc≤_;omega,fun _=>by show s.cyc=_;omega,rfl,rfl⟩
 |k+1,s,G,h=>by
  unfold runN
  by_cases hs:s.st=0
  ·rw[if_pos hs]
   obtain⟨G',e1,e2,e3⟩:=cycle_good hM G hs (by omega)
   obtain⟨f1,f2,f3,f4,f5⟩:=runN_good hM k (cycle M s) G' (by rw[e1];omega)
   exact⟨f1,by rw[e1]at f2;omega,fun h=>by rw[f3 h,e1];omega,f4.trans e2,f5.trans e3⟩
  ·rw[if_neg hs]
   exact⟨G,by omega,fun h=>absurd h hs,rfl,rfl⟩
theorem begin_good {M:Mc} (win phys wide:Int) (n:Nat) (R:Nat→Int) (pc st ca:Int) (f:Nat→Int) (scr:List Int) (hw:1≤win) (hp:33≤phys) (hp2:phys≤96) (hwi:1≤wide):Good M ⟨R,pc,st,ca,f⟩ (begin win phys wide n R pc st ca f scr):=by
 refine⟨⟨rfl,rfl,fun j hj=>absurd hj (by show¬j<0;omega)⟩,fun _=>⟨fun i=>i,?_⟩,Int.le_refl 0,Int.le_refl 0,Int.le_refl 0,hw,hp,hwi,?_,?_,.inr ?_,fun _=>.inr (.inl ⟨rfl,rfl⟩)⟩
 ·refine⟨fun r hr=>?_,trivial,rfl,.inl ⟨rfl,rfl,(fun o h=>by cases h)⟩,⟨fun r r' _ _ e=>by omega,?_,fun r hr hm=>?_,fun r hr=>by show 0≤(r:Int)∧(r:Int)<phys;omega,fun x hx=>?_⟩,?_,by simp[Rise,begin],(fun o h=>by cases h),rfl,⟨(fun q h=>by cases h),(fun o h=>by cases h),(fun o h=>by cases h),(fun o h=>by cases h)⟩,(fun o h=>by cases h)⟩
  ·show decide ((r:Int)<32)=true∧(if(r:Int)<32 then R (r:Int).toNat else 0)=R r
   refine⟨decide_eq_true (by omega),?_⟩
   rw[if_pos (by omega)]
   simp
  ·show((List.range (phys.toNat-32)).map (fun i:Nat=>32+(i:Int))).Nodup
   exact(List.nodup_range.map _ (fun a b hab e=>hab (by omega)))
  ·have hm:(r:Int)∈(List.range (phys.toNat-32)).map (fun i:Nat=>32+(i:Int)):=hm
   obtain⟨i,_,e⟩:=List.mem_map.1 hm
   omega
  ·have hx:x∈(List.range (phys.toNat-32)).map (fun i:Nat=>32+(i:Int)):=hx
   obtain⟨i,hi,e⟩:=List.mem_map.1 hx
   have:=List.mem_range.1 hi
   show 0≤x∧x<phys
   omega
  ·show 32+((([]:List Int)++(List.range (phys.toNat-32)).map (fun i:Nat=>32+(i:Int))).length:Int)=phys
   simp
   omega
 ·show((0:Nat):Int)≤0*wide
  simp
 ·show((0:Nat):Int)≤2000
  omega
 ·show(0:Int)≤13*((0:Nat):Int)+12
  omega
end Go.Proofs.YtpiohehijkpghacGreatDoor.Co
namespace Go.Proofs.YtpiohehijkpghacGreatDoor
open Go.RowKit
open Hy
set_option linter.unusedVariables false
attribute [local go_sem ↓] Go.wp_at_zero Go.wp_at_succ
theorem mask_any (p0 p1 p2:Int) (h0:0≤p1) (h1:p1≤31) (w:World):
  Calls Tryz.prog 101 #[.agg #[.int .u32 p0,.int .u32 p1,.int .u32 p2]] w fun e w'=>e=.returned (.int .u32 (msk p1))∧Below w.heap.size w w':=by
 go_enter Tryz.func101,Tryz.ntmps101
 go_wp2
 go_ret
 exact⟨rfl,(Below.refl _ _).alloc (Nat.le_refl _) _⟩
structure TB (f:Int) (B:Nat) (bs:Int) (w wl:World):Prop where
 c0:wl.cell? ⟨B+1+1,0,none⟩=some (.int .i64 f)
 c1:wl.cell? ⟨B+1+1,1,none⟩=some (.int .u32 bs)
 b0:wl.cell? ⟨B+1,0,none⟩=some (.int .u32 0)
 b1:wl.cell? ⟨B+1,1,none⟩=some (.int .u32 12)
 b2:wl.cell? ⟨B+1,2,none⟩=some (.int .u32 25)
 r0:wl.cell? ⟨B,0,none⟩=some (.int .i64 0)
 r1:wl.cell? ⟨B,1,none⟩=some (.int .u32 0)
 z0:wl.frozen? ⟨B,0,none⟩=false
 z1:wl.frozen? ⟨B,1,none⟩=false
 z2:wl.frozen? ⟨B+1+1,1,none⟩=false
 be:Below B w wl
theorem tb_next {f:Int} {B:Nat} {T V V':Int} {w wr:World} (hV:V=V')
  (c0:wr.cell? ⟨B+1+1,0,none⟩=some (.int .i64 f))
  (c1:wr.cell? ⟨B+1+1,1,none⟩=some (.int .u32 T))
  (b0:wr.cell? ⟨B+1,0,none⟩=some (.int .u32 0))
  (b1:wr.cell? ⟨B+1,1,none⟩=some (.int .u32 12))
  (b2:wr.cell? ⟨B+1,2,none⟩=some (.int .u32 25))
  (r0:wr.cell? ⟨B,0,none⟩=some (.int .i64 0))
  (r1:wr.cell? ⟨B,1,none⟩=some (.int .u32 0))
  (z0:wr.frozen? ⟨B,0,none⟩=false)
  (z1:wr.frozen? ⟨B,1,none⟩=false)
  (z2:wr.frozen? ⟨B+1+1,1,none⟩=false)
  (be:Below B w wr):
  TB f B (bits .or .u32 T V') w (wr.setCell ⟨B+1+1,1,none⟩ (.int .u32 (bits .or .u32 T V))).drew:=by
 subst hV
 refine⟨?_,?_,?_,?_,?_,?_,?_,?_,?_,?_,(be.setCell (by simp;omega) _).drew⟩
 all_goals simp[go_sem, *]
theorem toldBy_any (n:Nat) (hn:n≤3) (f:Int) (b:Nat) (ps:Nat→Int) (w:World) (hb:b<w.heap.size)
  (hc:∀j:Nat,j<n→w.cell? ⟨b,j,none⟩=some (.int .u32 (ps j))):
  Calls Tryz.prog 68 #[.int .i64 f,.slice (some ⟨b,0,none⟩) n n] w fun e w'=>e=.returned (.agg #[.int .i64 f,.int .u32 (tb ps n)])∧Below w.heap.size w w':=by
 go_enter Tryz.func68,Tryz.ntmps68
 go_wp2
 go_loopw [7,8,14] (fun i p k wl=>∃j:Nat,j≤n∧k=.int .i64 j∧TB f w.heap.size (tb ps j) w wl) (fun _ _ k _=>n-(intOf k).toNat)
 case atStart=>
  refine⟨0,Nat.zero_le _,rfl,⟨?_,?_,?_,?_,?_,?_,?_,?_,?_,?_,?_⟩⟩
  all_goals try simp[go_sem,tb]
  exact(((Below.refl _ _).alloc (Nat.le_refl _) _).alloc (by simp) _).alloc (by simp;omega) _
 case round=>
  obtain⟨j,hj,rfl,hT⟩:=hrel
  have c0:=hT.c0
  have c1:=hT.c1
  have b0:=hT.b0
  have b1:=hT.b1
  have b2:=hT.b2
  have r0:=hT.r0
  have r1:=hT.r1
  have z0:=hT.z0
  have z1:=hT.z1
  have z2:=hT.z2
  by_cases hlt:j<n
  ·have hx:wr.cell? ⟨b,j,none⟩=some (.int .u32 (ps j)):=(hT.be.cell (p:=⟨b,j,none⟩) hb).trans (hc j hlt)
   have hj3:j=0∨j=1∨j=2:=by omega
   obtain⟨T,hTb⟩:∃T,T=tb ps j:=⟨_,rfl⟩
   have HT:Hid (T=tb ps j):=hTb
   rw[←hTb]at c1
   have hbe:=hT.be
   clear hc hTb hT
   rcases hj3 with rfl|rfl|rfl
   all_goals
    go_wp2_with fail
    go_region
    go_wp2
    refine⟨⟨_,hlt,by go_num,?_⟩,by simp[intOf];omega⟩
    rw[tb,←HT.out]
    exact tb_next (by simp[beg]) c0 c1 b0 b1 b2 r0 r1 z0 z1 z2 hbe
  ·obtain rfl:j=n:=by omega
   go_wp2
   exact bodyPost_ret (v:=.agg #[.int .i64 f,.int .u32 (tb ps j)]) (by simp[results,Tryz.results68,go_sem,r0,r1]) rfl ⟨rfl,(hT.be.setCell (Nat.le_refl _) _).setCell (Nat.le_refl _) _⟩
end Go.Proofs.YtpiohehijkpghacGreatDoor
namespace Go.Proofs.YtpiohehijkpghacGreatDoor
open Go.RowKit
open Hy
set_option linter.unusedVariables false
abbrev hcs (R:Nat→Int) (pc st ca:Int):Array Value:=#[.int .u32 (R 0),.int .u32 (R 1),.int .u32 (R 2),.int .u32 (R 3),.int .u32 (R 4),.int .u32 (R 5),.int .u32 (R 6),.int .u32 (R 7),.int .u32 (R 8),.int .u32 (R 9),.int .u32 (R 10),.int .u32 (R 11),.int .u32 (R 12),.int .u32 (R 13),.int .u32 (R 14),.int .u32 (R 15),.int .u32 (R 16),.int .u32 (R 17),.int .u32 (R 18),.int .u32 (R 19),.int .u32 (R 20),.int .u32 (R 21),.int .u32 (R 22),.int .u32 (R 23),.int .u32 (R 24),.int .u32 (R 25),.int .u32 (R 26),.int .u32 (R 27),.int .u32 (R 28),.int .u32 (R 29),.int .u32 (R 30),.int .u32 (R 31),.int .u32 pc,.int .i64 st,.int .i64 ca]
abbrev hv (R:Nat→Int) (pc st ca:Int):Value:=.agg (hcs R pc st ca)
def may (R:Nat→Int) (st ca:Int):Bool:=R 0==0&&(((st==0||st==1)&&ca==0)||(st==2&&decide (1≤ca)&&decide (ca≤6)))
abbrev ccs (pc next st ca rd val at_ many data:Int) (out:Bool) (told:Int):Array Value:=#[.int .u32 pc,.int .u32 next,.int .i64 st,.int .i64 ca,.int .i64 rd,.int .u32 val,.int .u32 at_,.int .i64 many,.int .u32 data,.bool out,.int .u32 told]
abbrev cv (pc next st ca rd val at_ many data:Int) (out:Bool) (told:Int):Value:=.agg (ccs pc next st ca rd val at_ many data out told)
theorem size_hart:(Tryz.prog.info? 27).map (·.size)=some 35:=by kernel_rfl
theorem size_commit:(Tryz.prog.info? 68).map (·.size)=some 11:=by kernel_rfl
theorem wpList_build_to {P:Program} {ops:Array Oper} {rest:List Oper} {o:Oper} {a:Act} {w:World} {Q:Exit→Act→World→Prop} (hg:o.guard=none) (t:TypeId) (parts:Array (Nat×Operand)) (ho:o.op=.build t parts) (cells:Array Value)
  (hb:P.built t (parts.map fun(i,x)=>(i,a.eval x)).toList=some cells)
  (h:wpList P ops Q rest (a.put o.dst (.agg cells)) w):wpList P ops Q (o::rest) a w:=
 wpList_build hg t parts ho (by rw[hb];rfl) (by rw[hb];exact h)
def Ones (H:Array Value):Prop:=H.all (·.oneCell')=true
theorem Ones.set {H:Array Value} (h:Ones H) (i:Nat) (v:Value) (hv:v.oneCell'=true):Ones (H.setIfInBounds i v):=by
 unfold Ones at*
 rw[Array.all_eq_true_iff_forall_mem]at*
 intro x hx
 obtain⟨j,hj,e⟩:=Array.getElem_of_mem hx
 have hj':j<H.size:=by simpa using hj
 rw[Array.getElem_setIfInBounds hj']at e
 split at e
 ·rw[←e];exact hv
 ·rw[←e];exact h _ (Array.getElem_mem hj')
theorem below_row {B:Nat} {a w:World} (h:Below B a w) {g:Nat} (hg:B≤g) (cs:Array Value):Below B a (w.setRow g cs):=
 ⟨h.os,h.tape,h.output,by simpa using h.size,fun k hk=>(setRow_other _ _ _ _ (by omega)).trans (h.block k hk)⟩
theorem ones_ccs (pc next st ca rd val at_ many data:Int) (out:Bool) (told:Int):Ones (ccs pc next st ca rd val at_ many data out told):=by unfold Ones;simp[Value.oneCell']
end Go.Proofs.YtpiohehijkpghacGreatDoor
namespace Go.Proofs.YtpiohehijkpghacGreatDoor
open Go.RowKit
open Hy
set_option linter.unusedVariables false
attribute [local go_sem ↓] Go.wp_at_zero Go.wp_at_succ
theorem bcell {W w1:World} {B:Nat} (hb:Below B W w1):(∀b o,b<B→w1.cell? ⟨b,o,none⟩=W.cell? ⟨b,o,none⟩)∧(∀b o,b<B→w1.frozen? ⟨b,o,none⟩=W.frozen? ⟨b,o,none⟩):=
 ⟨fun b o h=>hb.cell (p:=⟨b,o,none⟩) h,fun b o h=>hb.frozen (p:=⟨b,o,none⟩) h⟩
abbrev fv (c:Nat→Int):Value:=.agg #[.int .u32 (c 0),.int .u32 (c 1),.int .u32 (c 2),.int .u32 (c 3),.int .u32 (c 4),.int .u32 (c 5),.int .u32 (c 6),.int .u32 (c 7),.int .u32 (c 8),.int .u32 (c 9),.int .u32 (c 10),.int .u32 (c 11),.int .u32 (c 12),.int .u32 (c 13),.int .u32 (c 14),.int .u32 (c 15),.int .u32 (c 16)]
abbrev pcs (c:Nat→Int):Value:=.agg #[.int .u32 (c 5),.int .u32 (c 6),.int .u32 (c 7),.int .u32 (c 8),.int .u32 (c 9),.int .u32 (c 10),.int .u32 (c 11),.int .u32 (c 12),.int .u32 (c 13),.int .u32 (c 14),.int .u32 (c 15),.int .u32 (c 16)]
theorem ix0 (c:Nat→Int) (w:World):(Instr.index 111 (pcs c) (.int .i64 0)).run Tryz.prog w=.ok (.agg #[.int .u32 (c 5),.int .u32 (c 6),.int .u32 (c 7)]) w:=by kernel_rfl
theorem ix1 (c:Nat→Int) (w:World):(Instr.index 111 (pcs c) (.int .i64 1)).run Tryz.prog w=.ok (.agg #[.int .u32 (c 8),.int .u32 (c 9),.int .u32 (c 10)]) w:=by kernel_rfl
theorem ix2 (c:Nat→Int) (w:World):(Instr.index 111 (pcs c) (.int .i64 2)).run Tryz.prog w=.ok (.agg #[.int .u32 (c 11),.int .u32 (c 12),.int .u32 (c 13)]) w:=by kernel_rfl
theorem ix3 (c:Nat→Int) (w:World):(Instr.index 111 (pcs c) (.int .i64 3)).run Tryz.prog w=.ok (.agg #[.int .u32 (c 14),.int .u32 (c 15),.int .u32 (c 16)]) w:=by kernel_rfl
theorem readImm_any (c:Nat→Int) (x:Int) (x0:0≤x) (x1:x≤4294967295)
  (hb:∀j,1≤j→0≤c j∧c j≤31) (w:World):
  Calls Tryz.prog 69 #[fv c,.int .u32 x] w fun e w'=>e=.returned (.int .i32 (rim c x))∧Below w.heap.size w w':=by
 have i0:=ix0 c
 have i1:=ix1 c
 have i2:=ix2 c
 have i3:=ix3 c
 go_enter Tryz.func69,Tryz.ntmps69
 go_wp2
 go_loopw [5,7,10] (fun b p k wl=>∃j:Nat,j≤4∧k=.int .i64 j∧b=.int .u32 (ib c x j)∧Below (w.heap.size+1) (w.alloc (.cells #[.int .u32 (c 0),.int .u32 (c 1),.int .u32 (c 2),.int .u32 (c 3),.int .u32 (c 4),.int .u32 (c 5),.int .u32 (c 6),.int .u32 (c 7),.int .u32 (c 8),.int .u32 (c 9),.int .u32 (c 10),.int .u32 (c 11),.int .u32 (c 12),.int .u32 (c 13),.int .u32 (c 14),.int .u32 (c 15),.int .u32 (c 16)] 113)) wl∧w.heap.size<wl.heap.size) (fun _ _ k _=>4-(intOf k).toNat)
 case atStart=>exact⟨0,by omega,rfl,rfl,Below.refl _ _,by simp⟩
 case round=>
  obtain⟨j,hj,rfl,rfl,hbe,hsz⟩:=hrel
  obtain⟨T,hTb⟩:∃T,T=ib c x j:=⟨_,rfl⟩
  have HT:Hid (T=ib c x j):=hTb
  rw[←hTb]
  clear hTb
  by_cases hlt:j<4
  ·have hj3:j=0∨j=1∨j=2∨j=3:=by omega
   rcases hj3 with rfl|rfl|rfl|rfl
   ·obtain⟨h00,h01⟩:0≤c 6∧c 6≤31:=hb 6 (by omega)
    have hbe2:=hbe.alloc hsz (.cells #[.int .u32 (c 5),.int .u32 (c 6),.int .u32 (c 7)] 110)
    go_wp2_with fail
    go_region_held3 (fun w'=>w'.cell? ⟨wr.heap.size,0,none⟩=some (.int .u32 (c 5))∧w'.cell? ⟨wr.heap.size,1,none⟩=some (.int .u32 (c 6))∧w'.cell? ⟨wr.heap.size,2,none⟩=some (.int .u32 (c 7))) (first|go_keep|(obtain⟨hc,hf⟩:=bcell hk;refine⟨?_,?_,?_⟩<;>(rw[hc _ _ (by simp)];go_keep))) ((go_at_call 101;refine(mask_any _ _ _ ?_ ?_ _).mono ?_;(iterate 2 omega);rintro e w' ⟨rfl,hk⟩))
    replace hbe2:=hbe2.drew.trans (hk.mono (B':=w.heap.size+1) (by simp;omega))
    have hs:=hk.size
    simp at hs
    go_wp2
    refine⟨⟨1,by omega,by go_num,?_,hbe2,by omega⟩,by simp[intOf]⟩
    rw[ib,←HT.out];rfl
   ·obtain⟨h00,h01⟩:0≤c 9∧c 9≤31:=hb 9 (by omega)
    have hbe2:=hbe.alloc hsz (.cells #[.int .u32 (c 8),.int .u32 (c 9),.int .u32 (c 10)] 110)
    go_wp2_with fail
    go_region_held3 (fun w'=>w'.cell? ⟨wr.heap.size,0,none⟩=some (.int .u32 (c 8))∧w'.cell? ⟨wr.heap.size,1,none⟩=some (.int .u32 (c 9))∧w'.cell? ⟨wr.heap.size,2,none⟩=some (.int .u32 (c 10))) (first|go_keep|(obtain⟨hc,hf⟩:=bcell hk;refine⟨?_,?_,?_⟩<;>(rw[hc _ _ (by simp)];go_keep))) ((go_at_call 101;refine(mask_any _ _ _ ?_ ?_ _).mono ?_;(iterate 2 omega);rintro e w' ⟨rfl,hk⟩))
    replace hbe2:=hbe2.drew.trans (hk.mono (B':=w.heap.size+1) (by simp;omega))
    have hs:=hk.size
    simp at hs
    go_wp2
    refine⟨⟨2,by omega,by go_num,?_,hbe2,by omega⟩,by simp[intOf]⟩
    rw[ib,←HT.out];rfl
   ·obtain⟨h00,h01⟩:0≤c 12∧c 12≤31:=hb 12 (by omega)
    have hbe2:=hbe.alloc hsz (.cells #[.int .u32 (c 11),.int .u32 (c 12),.int .u32 (c 13)] 110)
    go_wp2_with fail
    go_region_held3 (fun w'=>w'.cell? ⟨wr.heap.size,0,none⟩=some (.int .u32 (c 11))∧w'.cell? ⟨wr.heap.size,1,none⟩=some (.int .u32 (c 12))∧w'.cell? ⟨wr.heap.size,2,none⟩=some (.int .u32 (c 13))) (first|go_keep|(obtain⟨hc,hf⟩:=bcell hk;refine⟨?_,?_,?_⟩<;>(rw[hc _ _ (by simp)];go_keep))) ((go_at_call 101;refine(mask_any _ _ _ ?_ ?_ _).mono ?_;(iterate 2 omega);rintro e w' ⟨rfl,hk⟩))
    replace hbe2:=hbe2.drew.trans (hk.mono (B':=w.heap.size+1) (by simp;omega))
    have hs:=hk.size
    simp at hs
    go_wp2
    refine⟨⟨3,by omega,by go_num,?_,hbe2,by omega⟩,by simp[intOf]⟩
    rw[ib,←HT.out];rfl
   ·obtain⟨h00,h01⟩:0≤c 15∧c 15≤31:=hb 15 (by omega)
    have hbe2:=hbe.alloc hsz (.cells #[.int .u32 (c 14),.int .u32 (c 15),.int .u32 (c 16)] 110)
    go_wp2_with fail
    go_region_held3 (fun w'=>w'.cell? ⟨wr.heap.size,0,none⟩=some (.int .u32 (c 14))∧w'.cell? ⟨wr.heap.size,1,none⟩=some (.int .u32 (c 15))∧w'.cell? ⟨wr.heap.size,2,none⟩=some (.int .u32 (c 16))) (first|go_keep|(obtain⟨hc,hf⟩:=bcell hk;refine⟨?_,?_,?_⟩<;>(rw[hc _ _ (by simp)];go_keep))) ((go_at_call 101;refine(mask_any _ _ _ ?_ ?_ _).mono ?_;(iterate 2 omega);rintro e w' ⟨rfl,hk⟩))
    replace hbe2:=hbe2.drew.trans (hk.mono (B':=w.heap.size+1) (by simp;omega))
    have hs:=hk.size
    simp at hs
    go_wp2
    refine⟨⟨4,by omega,by go_num,?_,hbe2,by omega⟩,by simp[intOf]⟩
    rw[ib,←HT.out];rfl
  ·obtain rfl:j=4:=by omega
   obtain⟨h00,h01⟩:0≤c 4∧c 4≤31:=hb 4 (by omega)
   obtain⟨hc,hf⟩:=bcell hbe
   have h4:wr.cell? ⟨w.heap.size,4,none⟩=some (.int .u32 (c 4)):=by rw[hc _ _ (by omega)];simp[go_sem]
   clear hc hf
   go_wp2
   go_ret
   exact⟨by rw[HT.out];rfl,((Below.refl _ _).alloc (Nat.le_refl _) _).trans (hbe.mono (by omega))⟩
abbrev iv (op rd rs1 rs2 imm:Int):Value:=.agg #[.int .i64 op,.int .i64 rd,.int .i64 rs1,.int .i64 rs2,.int .i32 imm]
end Go.Proofs.YtpiohehijkpghacGreatDoor
