/- A core's parts, step by step. Plain mathematics. -/
import Derived.Test.YtpiohehijkpghabGreatDoorS33
import Derived.Test.YtpiohehijkpghabGreatDoorS34
set_option linter.unusedSimpArgs false
set_option linter.unusedVariables false
namespace Go.Proofs.YtpiohehijkpghabGreatDoor.Co
open Go.RowKit
open Hy
open Wi Od Re.Hy
open Gu.Hy (Tb)
structure MR(M:Mc):Prop where
 dcd:∀{x i},M.dcd x=some i->InOk i
 dow:∀{i} (pc a b:Int) (n:Nat),InOk i->U32 pc->U32 a->U32 b->CmR (M.dow i pc a b n)
 br:∀{t} (pc:Int),Gu.TbOk t->U32 pc->U32 (M.br t pc).2
 va:∀{t} (pc:Int),Gu.TbOk t->U32 (M.va t pc).1
 lb:∀{t} (pc:Int) (tk:Bool) {g:Int},Gu.TbOk t->U32 g->Gu.TbOk (M.lb t pc tk g)
 lv:∀{t} (pc:Int) {v:Int},Gu.TbOk t->U32 pc->U32 v->Gu.TbOk (M.lv t pc v)
structure DgR(o:Dg):Prop where
 pc:U32 o.pc
 i:o.i=zin\/InOk o.i
 next:U32 o.next
 c:CmR o.c
theorem DgR.rd{o:Dg}(h:DgR o):o.i.rd<32:=by
 rcases h.i with e|e
 ·rw[e];decide
 ·exact e.lr
structure Rg(K:Int)(s:Cr):Prop where
 win:s.win<=32
 phys:s.phys<=96
 wide:s.wide<=4
 n:s.n<=4096
 f:∀i,i<s.n->0<=s.f i/\s.f i<=255
 tb:Gu.TbOk s.tb
 wd:∀x,U32 (s.wd x)
 und:∀o∈s.under,DgR o
 ask:∀q∈s.asked,q.Ok
 fro:U32 s.fro
 len:s.slots.length<=32
 lenA:(s.asked.length:Int)<=K
 bck:s.bck<=K
 tak:s.tak<=K
theorem Rg.mono{K K':Int}{s:Cr}(h:Rg K s)(hk:K<=K'):Rg K' s:=
 ⟨h.win,h.phys,h.wide,h.n,h.f,h.tb,h.wd,h.und,h.ask,h.fro,h.len,Int.le_trans h.lenA hk,Int.le_trans h.bck hk,Int.le_trans h.tak hk⟩
theorem zh9{wd:Int->Int}{x v:Int}(h:∀y,U32 (wd y))(hv:U32 v):∀y,U32 (upI wd x v y):=fun y=>by
 unfold upI
 split
 ·exact hv
 ·exact h y
theorem zo0{o:Dg}(h:U32 o.pc):(ownA o).Ok:=⟨h.1,h.2,by show(0:Int)<=0;omega,by show(0:Int)<=_;omega,by show _<=(4:Int);omega,by show(4:Int)<=_;omega⟩
theorem zo1(q:Int):(st0 q).Ok:=⟨by show(0:Int)<=0;omega,by show(0:Int)<=_;omega,by show(0:Int)<=0;omega,by show(0:Int)<=_;omega,by show _<=(0:Int);omega,by show(0:Int)<=_;omega⟩
theorem zqb{q x m:Int}(hx:U32 x)(hm:0<=m/\m<=4):(ldA q x m).Ok:=⟨hx.1,hx.2,by show(0:Int)<=0;omega,by show(0:Int)<=_;omega,by show _<=m;omega,by show m<=_;omega⟩
theorem zkR{q:Int}{c:Cm}(h:CmR c):(stA q c).Ok:=⟨h.pl.1,h.pl.2,h.data.1,h.data.2,by show _<=c.many;rcases h.many with e|e|e|e<;>omega,by show c.many<=_;rcases h.many with e|e|e|e<;>omega⟩
theorem zia(i:In)(a:Int):U32 (place i a):=umod _
theorem zo2{K:Int}{s:Cr}{o:Dg}(G:Rg K s)(ho:U32 o.pc):Rg (K+2) (askO s o):=by
 unfold askO
 refine⟨G.win,G.phys,G.wide,G.n,G.f,G.tb,G.wd,G.und,fun q hq=>?_,G.fro,G.len,?_,by have:=G.bck;show s.bck<=_;omega,by have:=G.tak;show s.tak<=_;omega⟩
 ·rcases List.mem_append.1 hq with h|h
  ·exact G.ask q h
  ·rcases List.mem_cons.1 h with rfl|h
   ·exact zo0 ho
   ·split at h
    ·rw[List.mem_singleton.1 h];exact zo1 _
    ·cases h
 ·have:=G.lenA
  show((s.asked++_:List Ac).length:Int)<=_
  rw[List.length_append]
  split<;>simp<;>omega
theorem zo3{K:Int}{s:Cr}{o:Dg}(G:Rg K s)(ho:DgR o):Rg K (namO s o).1/\DgR (namO s o).2:=by
 unfold namO
 split
 ·exact⟨G,ho.pc,ho.i,ho.next,ho.c⟩
 ·exact⟨⟨G.win,G.phys,G.wide,G.n,G.f,G.tb,G.wd,G.und,G.ask,G.fro,G.len,G.lenA,G.bck,G.tak⟩,ho.pc,ho.i,ho.next,ho.c⟩
theorem vB(l:List Sl)(q:Int):(donS l q).length=l.length:=by unfold donS;exact List.length_map _
theorem zmj{K:Int}{s:Cr}{o:Dg}{k:Int}(G:Rg K s)(ho:DgR o)(hk:0<=k/\k<=6):Rg K (kt s o k).1/\DgR (kt s o k).2:=
 ⟨⟨G.win,G.phys,G.wide,G.n,G.f,G.tb,G.wd,G.und,G.ask,G.fro,by show(donS _ _).length<=_;rw[vB];exact G.len,G.lenA,G.bck,G.tak⟩,ho.pc,ho.i,ho.next,jC ho.pc hk⟩
theorem zo4{M:Mc}(hM:MR M){K:Int}{s:Cr}{o:Dg}(G:Rg K s)(ho:DgR o):Rg K (wayO M s o).1/\U32 (wayO M s o).2:=by
 unfold wayO
 split
 ·exact⟨G,umod _⟩
 ·split
  ·refine⟨⟨G.win,G.phys,G.wide,G.n,G.f,G.tb,G.wd,G.und,G.ask,G.fro,G.len,G.lenA,G.bck,G.tak⟩,?_⟩
   show U32 (if _ then _ else _)
   split
   ·split
    ·exact hM.br _ G.tb ho.pc
    ·exact umod _
   ·exact umod _
  ·exact⟨G,umod _⟩
theorem zo5{M:Mc}(hM:MR M){K:Int}{s:Cr}(G:Rg K s)(pc k:Int):U32 (valO M s pc k).1:=by
 unfold valO
 split
 ·exact u0
 ·split
  ·exact umod _
  ·exact hM.va _ G.tb
theorem zmk{M:Mc}(hM:MR M){K:Int}{s:Cr}{o:Dg}(G:Rg K s)(ho:DgR o):Rg K (gueL M s o).1/\DgR (gueL M s o).2:=by
 have hv:=fun k=>zo5 hM G o.pc k
 unfold gueL
 simp only[]
 split
 ·exact⟨⟨G.win,G.phys,G.wide,G.n,G.f,G.tb,zh9 G.wd (hv _),G.und,G.ask,G.fro,G.len,G.lenA,G.bck,G.tak⟩,ho.pc,ho.i,ho.next,ho.c⟩
 ·exact⟨⟨G.win,G.phys,G.wide,G.n,G.f,G.tb,G.wd,G.und,G.ask,G.fro,G.len,G.lenA,G.bck,G.tak⟩,ho.pc,ho.i,ho.next,ho.c⟩
theorem zo6{M:Mc}(hM:MR M){K:Int}{s:Cr}{o:Dg}(G:Rg K s)(ho:DgR o):Rg K (gueO M s o).1/\DgR (gueO M s o).2:=by
 obtain⟨G1,hw⟩:=zo4 hM G ho
 have G2:Rg K {(wayO M s o).1 with fro:=(wayO M s o).2}:=⟨G1.win,G1.phys,G1.wide,G1.n,G1.f,G1.tb,G1.wd,G1.und,G1.ask,hw,G1.len,G1.lenA,G1.bck,G1.tak⟩
 have ho2:DgR {o with next:=(wayO M s o).2}:=⟨ho.pc,ho.i,hw,ho.c⟩
 unfold gueO
 simp only[]
 split
 ·exact⟨G2,ho2⟩
 ·exact zmk hM G2 ho2
theorem zeH{M:Mc}(hM:MR M)(s:Cr):((rdI M s).1=zin\/InOk (rdI M s).1)/\0<=(rdI M s).2/\(rdI M s).2<=6/\((rdI M s).2=0->InOk (rdI M s).1):=by
 unfold rdI
 split
 ·split
  ·rename_i i h
   exact⟨.inr (hM.dcd h),by show(0:Int)<=0;omega,by show(0:Int)<=6;omega,fun _=>hM.dcd h⟩
  ·exact⟨.inl rfl,by show(0:Int)<=2;omega,by show(2:Int)<=6;omega,fun h=>absurd (show(2:Int)=0 from h) (by decide)⟩
 ·exact⟨.inl rfl,by show(0:Int)<=1;omega,by show(1:Int)<=6;omega,fun h=>absurd (show(1:Int)=0 from h) (by decide)⟩
theorem zo7{M:Mc}(hM:MR M){K:Int}{s:Cr}(G:Rg K s):DgR (newO M s):=⟨G.fro,(zeH hM s).1,u0,zp1⟩
theorem zml{K:Int}{s:Cr}(G:Rg K s)(h:¬s.win<=s.slots.length):Rg (K+1) {s with slots:=s.slots++[(s.tak,false)],tak:=s.tak+1}:=
 ⟨G.win,G.phys,G.wide,G.n,G.f,G.tb,G.wd,G.und,G.ask,G.fro,by have:=G.win;show(s.slots++[_]:List Sl).length<=_;simp;omega,by have:=G.lenA;show(s.asked.length:Int)<=_;omega,by have:=G.bck;show s.bck<=_;omega,by have:=G.tak;show s.tak+1<=_;omega⟩
theorem zmm{M:Mc}(hM:MR M){K:Int}{s:Cr}(G:Rg K s):Rg (K+3) (tak1 M s).1:=by
 unfold tak1
 split
 ·exact G.mono (by omega)
 ·rename_i hw
  split
  ·exact G.mono (by omega)
  ·have G1:=zml G hw
   have G2:=zo2 G1 (o:=newO M s) G.fro
   obtain⟨G3,D3⟩:=zo3 G2 (zo7 hM G)
   have key:∀t:Cr×Dg,Rg (K+1+2) t.1->DgR t.2->Rg (K+3) {t.1 with under:=t.1.under++[t.2]}:=fun t h0 d=>by
    have h:Rg (K+3) t.1:=h0.mono (by omega)
    refine⟨h.win,h.phys,h.wide,h.n,h.f,h.tb,h.wd,fun o ho=>?_,h.ask,h.fro,h.len,h.lenA,h.bck,h.tak⟩
    rcases List.mem_append.1 (show o∈t.1.under++[t.2]from ho)with ho|ho
    ·exact h.und o ho
    ·rw[List.mem_singleton.1 ho];exact d
   simp only[]
   split
   ·obtain⟨G4,D4⟩:=zmj (k:=(rdI M s).2) G3 D3 ⟨(zeH hM s).2.1,(zeH hM s).2.2.1⟩
    exact key _ G4 D4
   ·obtain⟨G4,D4⟩:=zo6 hM G3 D3
    exact key _ G4 D4
theorem zib{K:Int}{s:Cr}(G:Rg K s)(q pc:Int)(hp:U32 pc):Rg (K+1) (back s q pc):=by
 unfold back
 refine⟨G.win,G.phys,G.wide,G.n,G.f,G.tb,G.wd,fun o ho=>G.und o (List.mem_filter.1 ho).1,fun a ha=>G.ask a (List.mem_filter.1 ha).1,hp,?_,?_,?_,by have:=G.tak;show s.tak<=_;omega⟩
 ·show(yV s.slots q).length<=_
  unfold yV
  exact Nat.le_trans (List.length_filter_le _ _) G.len
 ·show((s.asked.filter _).length:Int)<=_
  have:=List.length_filter_le (fun a:Ac=>!decide (q<=a.seq)) s.asked
  have:=G.lenA
  omega
 ·have:=G.bck
  show(if cutS s.slots q=[]then s.bck else s.bck+1)<=K+1
  split
  ·exact Int.le_trans this (by omega)
  ·omega
theorem zeI(l:List Ac)(q:Int)(e:Ac):(setA l q e).length=l.length:=by unfold setA;exact List.length_map _
theorem zmn{K:Int}{s:Cr}{q:Int}{c:Cm}(G:Rg K s)(hc:CmR c):Rg K {s with asked:=setA s.asked q (stA q c)}:=by
 refine⟨G.win,G.phys,G.wide,G.n,G.f,G.tb,G.wd,G.und,fun a ha=>?_,G.fro,G.len,by show((setA _ _ _).length:Int)<=_;rw[zeI];exact G.lenA,G.bck,G.tak⟩
 obtain⟨p,hp,rfl⟩:=List.mem_map.1 ha
 split
 ·exact zkR hc
 ·exact G.ask p hp
theorem zmo{l:List Dg}(h:∀o∈l,DgR o)(q:Int):U32 (pcOf l q):=by
 unfold pcOf
 split
 ·rename_i o ho
  exact(h o (List.mem_of_find?_eq_some ho)).pc
 ·exact u0
theorem zic{K:Int}{s:Cr}{q:Int}{c:Cm}(G:Rg K s)(hc:CmR c):Rg (K+1) (settle s q c):=by
 have G1:=zmn (q:=q) G hc
 unfold settle
 simp only[]
 split
 ·exact G1.mono (by omega)
 ·exact zib G1 _ _ (zmo G.und _)
theorem zmp{l:List Dg}{q:Int}{g:Dg->Dg}(h:∀o∈l,DgR o)(hg:∀o,DgR o->DgR (g o)):∀o∈putO l q g,DgR o:=fun o ho=>by
 obtain⟨p,hp,rfl⟩:=List.mem_map.1 ho
 split
 ·exact hg p (h p hp)
 ·exact h p hp
theorem zid{K:Int}{s:Cr}(q:Int)(g:Dg->Dg)(G:Rg K s)(hg:∀o,DgR o->DgR (g o)):Rg K {s with under:=putO s.under q g}:=
 ⟨G.win,G.phys,G.wide,G.n,G.f,G.tb,G.wd,zmp G.und hg,G.ask,G.fro,G.len,G.lenA,G.bck,G.tak⟩
theorem zie{K:Int}{s:Cr}{o:Dg}{c:Cm}(G:Rg K s)(hc:CmR c):Rg K {s with under:=putO s.under o.seq (fun o=>{o with st:=2,c:=c}),slots:=donS s.slots o.seq}:=by
 have:=zid o.seq (fun o=>{o with st:=2,c:=c}) G (fun o h=>⟨h.pc,h.i,h.next,hc⟩)
 exact⟨this.win,this.phys,this.wide,this.n,this.f,this.tb,this.wd,this.und,this.ask,this.fro,by show(donS _ _).length<=_;rw[vB];exact G.len,this.lenA,this.bck,this.tak⟩
theorem zmq{K:Int}{s:Cr}{o:Dg}{c:Cm}(G:Rg K s)(hc:CmR c):Rg (K+1) (fin1 s o c):=by
 unfold fin1
 simp only[]
 split
 ·exact zic (zie G hc) hc
 ·exact(zie G hc).mono (by omega)
theorem zmr{K:Int}{s:Cr}{o:Dg}{c:Cm}(G:Rg K s)(hc:CmR c):Rg K (jc s o c):=by
 unfold jc
 split
 ·exact G
 ·exact⟨G.win,G.phys,G.wide,G.n,G.f,G.tb,zh9 G.wd hc.val,G.und,G.ask,G.fro,G.len,G.lenA,G.bck,G.tak⟩
theorem zo8{K:Int}{s:Cr}(p:Bool)(G:Rg K s):Rg K {s with opn:=p}:=⟨G.win,G.phys,G.wide,G.n,G.f,G.tb,G.wd,G.und,G.ask,G.fro,G.len,G.lenA,G.bck,G.tak⟩
theorem vC{K:Int}{s:Cr}{o:Dg}{c:Cm}(G:Rg K s)(hc:CmR c):Rg (K+2) (finish s o c):=by
 have G1:=zmr (o:=o) (zmq (o:=o) G hc) hc
 unfold finish
 split
 ·exact G1.mono (by omega)
 ·exact(zo8 _ (zib G1 (o.seq+1) c.next hc.next)).mono (by omega)
theorem zif{op:Int}{g:Nat->Int}(h0:ldn op≠0)(h:∀k:Nat,(k:Int)<ldn op->0<=g k/\g k<=255):U32 (ldv op g):=by
 unfold ldv
 split
 ·rename_i e
  have:=h 0 (by rw[e];decide)
  unfold U32
  split<;>omega
 ·split
  ·rename_i e
   have h1:=h 0 (by rw[e];decide)
   have h2:=h 1 (by rw[e];decide)
   have h3:le g 2=g 0+256*g 1:=by simp[le];omega
   unfold U32
   split<;>omega
  ·have:=yu op
   exact ke (by omega) fun i hi=>h i (by omega)
theorem zkS{K:Int}{s:Cr}{q x m:Int}(G:Rg K s)(hx:U32 x)(hm:0<=m/\m<=4):Rg (K+1) {s with asked:=s.asked++[ldA q x m]}:=by
 refine⟨G.win,G.phys,G.wide,G.n,G.f,G.tb,G.wd,G.und,fun a ha=>?_,G.fro,G.len,by have:=G.lenA;show((s.asked++[_]:List Ac).length:Int)<=_;simp;omega,by have:=G.bck;show s.bck<=_;omega,by have:=G.tak;show s.tak<=_;omega⟩
 rcases List.mem_append.1 ha with h|h
 ·exact G.ask a h
 ·rw[List.mem_singleton.1 h];exact zqb hx hm
theorem zms{K:Int}{s:Cr}{o:Dg}(G:Rg K s)(ho:DgR o)(h0:ldn o.i.op≠0)(hf:fits s.n (place o.i (s.wd o.a)) (ldn o.i.op)=true):CmR (onC o.pc o.i.rd (ldv o.i.op (sb s.asked o.seq s.asked.length (place o.i (s.wd o.a)).toNat s.f))):=by
 have hp:=jA hf
 exact zex ho.pc ho.rd (zif h0 fun k hk=>zce (G.f _ (by omega)))
theorem zmt{K:Int}{s:Cr}{o:Dg}(G:Rg K s)(ho:DgR o)(h0:ldn o.i.op≠0):Rg (K+3) (lod1 s o):=by
 unfold lod1
 simp only[]
 split
 ·rename_i hf
  split
  ·exact G.mono (by omega)
  ·exact(vC (zkS G (zia _ _) (yu _)) (zms G ho h0 hf)).mono (by omega)
 ·exact(vC G (jC ho.pc (by omega))).mono (by omega)
theorem zmu{K:Int}{s:Cr}{q:Int}(G:Rg K s)(h:∀o∈s.under,o.seq=q->ldn o.i.op≠0):Rg (K+3) (lodS s q):=by
 unfold lodS
 split
 ·exact G.mono (by omega)
 ·rename_i o ho
  have hm:=List.mem_of_find?_eq_some ho
  have hq:o.seq=q:=by simpa using List.find?_some ho
  split
  ·exact(zid q (fun o=>{o with late:=o.late-1}) G (fun o h=>⟨h.pc,h.i,h.next,h.c⟩)).mono (K':=K+3) (by omega)
  ·exact zmt G (G.und o hm) (h o hm hq)
theorem zmv{M:Mc}(hM:MR M){K:Int}{s:Cr}{o:Dg}(G:Rg K s)(ho:DgR o)(hi:InOk o.i):Rg (K+2) (sta1 M s o):=by
 unfold sta1
 split
 ·exact(zid o.seq (fun o=>{o with st:=1}) G (fun o h=>⟨h.pc,h.i,h.next,h.c⟩)).mono (K':=K+2) (by omega)
 ·exact vC G (hM.dow _ _ _ _ hi ho.pc (G.wd _) (G.wd _))
theorem zj3{M:Mc}(hM:MR M){t:Tb}{o:Dg}(ht:Gu.TbOk t)(ho:DgR o):Gu.TbOk (learn M t o):=by
 have h1:Gu.TbOk (if trn o.i then M.lb t o.pc (decide (o.i.op=4)||!decide (o.c.next=(o.pc+4)%4294967296)) o.c.next else t):=by
  split
  ·exact hM.lb _ _ ht ho.c.next
  ·exact ht
 unfold learn
 simp only[]
 split
 ·exact hM.lv _ h1 ho.pc ho.c.val
 ·exact h1
theorem zmw{n:Nat}{f:Nat->Int}{c:Cm}(h:∀i,i<n->0<=f i/\f i<=255):∀i,i<n->0<=stoC f c i/\stoC f c i<=255:=fun i hi=>by
 unfold stoC sto
 split
 ·omega
 ·exact h i hi
theorem zmx{M:Mc}(hM:MR M){K:Int}{s:Cr}{o:Dg}(G:Rg K s)(ho:DgR o):Rg K (com1 M s o):=
 ⟨G.win,G.phys,G.wide,G.n,zmw G.f,zj3 hM G.tb ho,G.wd,G.und,G.ask,G.fro,G.len,G.lenA,G.bck,G.tak⟩
theorem zbz{M:Mc}(hM:MR M){K:Int}:∀(l:List Dg) {s:Cr},Rg K s->(∀o∈l,DgR o)->Rg K (l.foldl (com1 M) s)
 |[],s,G,_=>G
 |o::l,s,G,h=>zbz hM l (zmx hM G (h o (List.mem_cons_self ..))) (fun p hp=>h p (List.mem_cons_of_mem _ hp))
theorem jw(M:Mc):∀(l:List Dg) (s:Cr),(l.foldl (com1 M) s).under=s.under/\(l.foldl (com1 M) s).asked=s.asked/\(l.foldl (com1 M) s).slots=s.slots
 |[],s=>⟨rfl,rfl,rfl⟩
 |o::l,s=>jw M l (com1 M s o)
theorem zig{M:Mc}(hM:MR M){K:Int}{s:Cr}(G:Rg K s):Rg K (commit M s):=by
 have G1:=zbz hM (s.under.take (qW s.slots (min s.wide (left s)).toNat)) G (fun o ho=>G.und o (List.mem_of_mem_take ho))
 unfold commit
 refine⟨G1.win,G1.phys,G1.wide,G1.n,G1.f,G1.tb,G1.wd,fun o ho=>G.und o (List.mem_of_mem_drop ho),fun a ha=>G.ask a (List.mem_filter.1 ha).1,G1.fro,?_,?_,G1.bck,G1.tak⟩
 ·have:=G.len
  show(s.slots.drop _).length<=_
  rw[List.length_drop]
  omega
 ·have:=G.lenA
  have:=List.length_filter_le (fun q:Ac=>!decide (q.seq∈(s.slots.take (qW s.slots (min s.wide (left s)).toNat)).map (·.1))) s.asked
  show((s.asked.filter _).length:Int)<=_
  omega
theorem zj4(win phys wide:Int)(n:Nat)(R:Nat->Int)(pc st ca:Int)(f:Nat->Int)(scr:List Int)(hw:win<=32)(hp:phys<=96)(hwi:wide<=4)(hn:n<=4096)(hf:∀i,i<n->0<=f i/\f i<=255)(hR:∀i,i<32->U32 (R i))(hpc:U32 pc):Rg 0 (begin win phys wide n R pc st ca f scr):=by
 refine⟨hw,hp,hwi,hn,hf,⟨fun _ _=>u0,fun _ _=>u0,fun _ _=>u0,fun _ _=>u0⟩,fun x=>?_,fun o ho=>(nomatch ho),fun o ho=>(nomatch ho),hpc,Nat.zero_le _,Int.le_refl _,Int.le_refl _,Int.le_refl _⟩
 show U32 (if x<32 then R x.toNat else 0)
 split
 ·exact hR _ (by omega)
 ·exact u0
def Uq(l:List Ac):Prop:=((l.filter (·.st)).map (·.seq)).Nodup
theorem zcB{l:List Ac}(h:Uq l)(p:Ac->Bool):Uq (l.filter p):=by
 unfold Uq at*
 exact h.sublist ((List.filter_sublist.filter _).map _)
theorem zdI{l:List Ac}(h:Uq l){a:Ac}(ha:a.st=false):Uq (l++[a]):=by
 unfold Uq at*
 rw[List.filter_append,List.filter_cons_of_neg (by simp[ha])]
 simpa using h
theorem zo9{l:List Ac}(h:Uq l)(q:Int){e:Ac}(h1:e.st=true)(h2:e.seq=q):Uq (setA l q e):=by
 have key:∀l:List Ac,((setA l q e).filter (·.st)).map (·.seq)=(l.filter (·.st)).map (·.seq):=by
  intro l
  induction l with
  |nil=>rfl
  |cons a l ih=>
   show((((if a.st=true/\a.seq=q then e else a)::setA l q e)).filter (·.st)).map (·.seq)=_
   by_cases hc:a.st=true/\a.seq=q
   ·rw[if_pos hc,List.filter_cons_of_pos h1,List.filter_cons_of_pos hc.1,List.map_cons,List.map_cons,ih,h2,hc.2]
   ·rw[if_neg hc]
    by_cases ha:a.st=true
    ·rw[List.filter_cons_of_pos ha,List.filter_cons_of_pos ha,List.map_cons,List.map_cons,ih]
    ·rw[List.filter_cons_of_neg ha,List.filter_cons_of_neg ha,ih]
 unfold Uq
 rw[key]
 exact h
theorem zpa{s:Cr}{o:Dg}(h:Uq s.asked)(hl:∀a∈s.asked,a.seq<o.seq):Uq (askO s o).asked:=by
 have h1:Uq (s.asked++[ownA o]):=zdI h rfl
 show Uq (s.asked++(ownA o::_))
 split
 ·show Uq (s.asked++[ownA o,st0 o.seq])
  rw[show s.asked++[ownA o,st0 o.seq]=(s.asked++[ownA o])++[st0 o.seq] by simp]
  unfold Uq at*
  rw[List.filter_append,List.filter_cons_of_pos rfl,List.map_append]
  refine List.nodup_append.2 ⟨h1,by simp,fun x hx y hy e=>?_⟩
  obtain⟨a,ha,rfl⟩:=List.mem_map.1 hx
  have hy:y=o.seq:=by simpa[st0]using hy
  obtain⟨ha1,ha2⟩:=List.mem_filter.1 ha
  rcases List.mem_append.1 ha1 with h'|h'
  ·have:=hl a h';omega
  ·rw[List.mem_singleton.1 h']at ha2;cases ha2
 ·exact h1
theorem zih{s:Cr}(h:Uq s.asked)(q pc:Int):Uq (back s q pc).asked:=zcB h _
theorem zii{s:Cr}(h:Uq s.asked)(q:Int)(c:Cm):Uq (settle s q c).asked:=by
 have h1:Uq (setA s.asked q (stA q c)):=zo9 h q rfl rfl
 unfold settle
 simp only[]
 split
 ·exact h1
 ·exact zih (s:={s with asked:=setA s.asked q (stA q c)}) h1 _ _
theorem zmy{s:Cr}(h:Uq s.asked)(o:Dg)(c:Cm):Uq (fin1 s o c).asked:=by
 unfold fin1
 simp only[]
 split
 ·exact zii (by exact h) _ _
 ·exact h
theorem vD{s:Cr}(h:Uq s.asked)(o:Dg)(c:Cm):Uq (finish s o c).asked:=by
 have h2:Uq (jc (fin1 s o c) o c).asked:=by rw[jY];exact zmy h o c
 unfold finish
 split
 ·exact h2
 ·exact zih h2 (o.seq+1) c.next
theorem zmz{s:Cr}(h:Uq s.asked)(q:Int):Uq (lodS s q).asked:=by
 unfold lodS
 split
 ·exact h
 ·split
  ·exact h
  ·unfold lod1
   simp only[]
   split
   ·split
    ·exact h
    ·exact vD (s:={s with asked:=_}) (zdI h rfl) _ _
   ·exact vD h _ _
theorem zmA{M:Mc}{s:Cr}(h:Uq s.asked)(o:Dg):Uq (sta1 M s o).asked:=by
 unfold sta1
 split
 ·exact h
 ·exact vD h _ _
theorem zcC(s:Cr)(o:Dg):(namO s o).1.asked=s.asked:=by unfold namO;split<;>rfl
theorem vE(M:Mc)(s:Cr)(o:Dg):(wayO M s o).1.asked=s.asked:=by
 unfold wayO
 split
 ·rfl
 ·split<;>rfl
theorem zij(M:Mc)(s:Cr)(o:Dg):(gueO M s o).1.asked=s.asked:=by
 unfold gueO
 simp only[]
 split
 ·exact vE M s o
 ·unfold gueL
  simp only[]
  split
  ·exact vE M s o
  ·exact vE M s o
theorem zmB{M:Mc}{s:Cr}(h:Uq s.asked)(hl:∀a∈s.asked,a.seq<s.tak):Uq (tak1 M s).1.asked:=by
 unfold tak1
 split
 ·exact h
 ·split
  ·exact h
  ·have h1:=zpa (s:={s with slots:=s.slots++[(s.tak,false)],tak:=s.tak+1}) (o:=newO M s) h hl
   simp only[]
   split
   ·show Uq (namO _ _).1.asked
    rw[zcC]
    exact h1
   ·show Uq (gueO M _ _).1.asked
    rw[zij,zcC]
    exact h1
theorem zmC{M:Mc}{s:Cr}{m:Nat->Int}(I:Inv M s m):∀a∈s.asked,a.seq<s.tak:=fun a ha=>by
 obtain⟨o,ho,e,_⟩:=I.ask.of a ha
 have:=I.low o ho
 omega
theorem zik{l:List Ac}(h:Uq l){q:Int}{m:Nat}(hm:FirstA (fun a=>a.st&&decide (a.seq=q)) l m)(hlt:m<l.length)(e:Ac):setA l q e=l.set m e:=by
 apply List.ext_getElem?
 intro j
 unfold setA
 rw[List.getElem?_map,List.getElem?_set]
 by_cases hj:m=j
 ·subst hj
  rw[if_pos rfl,if_pos hlt,List.getElem?_eq_getElem hlt]
  have:=hm.yes _ (List.getElem?_eq_getElem hlt)
  simp at this
  show some (if _ then e else _)=_
  rw[if_pos this]
 ·rw[if_neg hj]
  cases hq:l[j]? with
  |none=>rfl
  |some a=>
   show some (if _ then e else a)=some a
   rw[if_neg]
   rintro⟨h1,h2⟩
   rcases Nat.lt_or_ge j m with hlt'|hge
   ·have:=hm.no j a hlt' hq
    simp[h1,h2]at this
   ·have hx:=hm.yes _ (List.getElem?_eq_getElem hlt)
    simp at hx
    obtain⟨l1,l2,hl,hl1⟩:∃l1 l2,l=l1++l[m]::l2/\l1.length=m:=⟨l.take m,l.drop (m+1),by rw[<-List.drop_eq_getElem_cons hlt,List.take_append_drop],by rw[List.length_take];omega⟩
    have ha:a∈l2:=by
     rw[hl]at hq
     rw[List.getElem?_append_right (by omega),List.getElem?_cons,if_neg (by omega)]at hq
     exact List.mem_of_getElem? hq
    unfold Uq at h
    rw[hl,List.filter_append,List.filter_cons_of_pos hx.1,List.map_append,List.map_cons]at h
    have:=(List.nodup_cons.1 (List.nodup_append.1 h).2.1).1
    exact this (List.mem_map.2 ⟨a,List.mem_filter.2 ⟨ha,h1⟩,by rw[h2,hx.2]⟩)
theorem zfU{l:List Ac}{q:Int}{m:Nat}(hm:FirstA (fun a=>a.st&&decide (a.seq=q)) l m)(hlt:m<l.length){e:Ac}(h1:e.st=true)(h2:e.kn=true)(h3:e.seq=q):FirstA (sto1 q) (l.set m e) m/\(l.set m e)[m]?=some e:=by
 have he:(l.set m e)[m]?=some e:=by rw[List.getElem?_set,if_pos rfl,if_pos hlt]
 refine⟨⟨by rw[List.length_set];omega,fun j a hj ha=>?_,fun a ha=>?_⟩,he⟩
 ·rw[List.getElem?_set,if_neg (by omega)]at ha
  have:=hm.no j a hj ha
  unfold sto1
  cases h:a.st with
  |false=>rfl
  |true=>rw[h]at this;simp at this;simp[this]
 ·rw[he]at ha
  have:=Option.some.inj ha
  subst this
  simp[sto1,h1,h2,h3]
theorem zil{l:List Ac}{p:Ac->Bool}(h:∃a∈l,p a=true):∃m,FirstA p l m/\m<l.length:=by
 obtain⟨m,hm⟩:=kr p l
 refine⟨m,hm,Classical.byContradiction fun hn=>?_⟩
 obtain⟨a,ha,hp⟩:=h
 obtain⟨j,hj⟩:=List.getElem?_of_mem ha
 have hjl:=(List.getElem?_eq_some_iff.1 hj).1
 have:=hm.no j a (by omega) hj
 rw[hp]at this
 cases this
theorem zdJ{l l1 l2:List Dg}{o:Dg}(hu:l=l1++o::l2)(hr:Rise l)(g:Dg->Dg):putO l o.seq g=l.set l1.length (g o)/\l[l1.length]?=some o:=by
 subst hu
 refine⟨?_,by simp⟩
 rw[vq hr,List.set_append_right _ _ (Nat.le_refl _),Nat.sub_self]
 rfl
theorem jl{l l1 l2:List Dg}{o:Dg}(hu:l=l1++o::l2)(hr:Rise l):FirstD (fun p=>decide (p.seq=o.seq)) l l1.length:=by
 subst hu
 refine⟨by simp,fun j q hj hq=>?_,fun q hq=>?_⟩
 ·rw[List.getElem?_append_left hj]at hq
  have:=(zG.1 hr).2.2 q (List.mem_of_getElem? hq) o (List.mem_cons_self ..)
  simp
  omega
 ·rw[List.getElem?_append_right (Nat.le_refl _)]at hq
  simp at hq
  simp[hq]
theorem yK{l:List Dg}{q:Int}(h:l.find? (fun p=>decide (p.seq=q))=none):FirstD (fun p=>decide (p.seq=q)) l l.length:=by
 refine⟨Nat.le_refl _,fun j p hj hp=>?_,fun p hp=>by simp at hp⟩
 have:=List.find?_eq_none.1 h p (List.mem_of_getElem? hp)
 simpa using this
theorem zmD{l l1 l2:List Dg}{o:Dg}(hu:l=l1++o::l2)(hr:Rise l)(h2:o.st≠2):DonAt (l.map slot) o.seq l1.length:=by
 subst hu
 refine⟨⟨by simp,fun j q hj hq=>?_,fun q hq=>?_⟩,by simp,?_⟩
 ·rw[List.getElem?_map]at hq
  obtain⟨p,hp,rfl⟩:=Option.map_eq_some_iff.1 hq
  rw[List.getElem?_append_left hj]at hp
  have:=(zG.1 hr).2.2 p (List.mem_of_getElem? hp) o (List.mem_cons_self ..)
  unfold waits slot
  have e:decide (p.seq=o.seq)=false:=decide_eq_false (by omega)
  simp[e]
 ·rw[List.getElem?_map,List.getElem?_append_right (Nat.le_refl _)]at hq
  simp at hq
  subst hq
  simp[waits,slot,h2]
 ·have:=zdu hr (o':={o with st:=2}) (by show(o.seq,decide ((2:Int)=2))=_;rfl)
  rw[this,List.map_append,List.map_append,List.set_append_right _ _ (by simp)]
  simp[slot]
theorem zfV{M:Mc}{s:Cr}{m:Nat->Int}(I:Inv M s m):First (above s.tak) s.slots s.slots.length:=by
 refine⟨Nat.le_refl _,fun j q hj hq=>?_,fun q hq=>by simp at hq⟩
 rw[I.slo,List.getElem?_map]at hq
 obtain⟨p,hp,rfl⟩:=Option.map_eq_some_iff.1 hq
 have:=I.low p (List.mem_of_getElem? hp)
 unfold above slot
 exact decide_eq_false (by show¬s.tak<=p.seq;omega)
theorem zcD{l:List Sl}{q:Int}(h:∀p∈l,p.1<q):DonAt (l++[(q,false)]) q l.length:=by
 refine⟨⟨by simp,fun j p hj hp=>?_,fun p hp=>?_⟩,by simp,?_⟩
 ·rw[List.getElem?_append_left hj]at hp
  have:=h p (List.mem_of_getElem? hp)
  unfold waits
  have e:decide (p.1=q)=false:=decide_eq_false (by omega)
  simp[e]
 ·rw[List.getElem?_append_right (Nat.le_refl _)]at hp
  simp at hp
  subst hp
  simp[waits]
 ·rw[zes (fun p hp=>by have:=h p hp;omega),List.set_append_right _ _ (Nat.le_refl _),Nat.sub_self]
  rfl
theorem zmE{M:Mc}{s:Cr}{m:Nat->Int}(I:Inv M s m):∀p∈s.slots,p.1<s.tak:=fun p hp=>by
 rw[I.slo]at hp
 obtain⟨o,ho,rfl⟩:=List.mem_map.1 hp
 exact(I.low o ho).2
theorem zcE{M:Mc}(hM:MOk M){s:Cr}{m:Nat->Int}(I:Inv M s m):Dis s.phys s.regs s.free:=by
 have:=Dis.mE (l1:=s.under) (l2:=[]) (fr:=s.free) (m:=m) (by rw[List.append_nil];exact I.dis) (zen hM I.ch)
 rw[I.reg]at this
 exact this
theorem zpb{M:Mc}(hM:MOk M){s:Cr}{m:Nat->Int}(I:Inv M s m)(h1:33<=s.phys)(h2:s.phys<=96):Nms s:=⟨h1,h2,zcE hM I⟩
theorem kJ{M:Mc}(hM:MOk M){s:Cr}{m:Nat->Int}(I:Inv M s m){o:Dg}(ho:o∈s.under)(h2:s.phys<=96):(0<=o.a/\o.a<96)/\(0<=o.b/\o.b<96)/\o.rd<32/\(o.rd≠0->0<=o.to/\o.to<96):=by
 obtain⟨l1,l2,hu,hloc⟩:=xk I.ch ho
 obtain⟨h3,h4,h5⟩:=yf hM hloc
 have hd:=Dis.mE (l1:=l1) (l2:=o::l2) (fr:=s.free) (m:=m) (by rw[<-hu];exact I.dis) (fun q hq=>zen hM I.ch q (by rw[hu];exact List.mem_append_left _ hq))
 have ha:=hd.rm _ h4
 have hb:=hd.rm _ h5
 rw[<-hloc.a]at ha
 rw[<-hloc.b]at hb
 refine⟨⟨ha.1,by omega⟩,⟨hb.1,by omega⟩,h3,fun h0=>?_⟩
 have:=hd.rf o.to (by rw[zT,if_neg h0];simp)
 exact⟨this.1,by omega⟩
theorem zj5{P:Int}{m:Nat->Int}{o:Dg}{t:List Dg}{fr:List Int}(hd:Dis P m (tos (o::t)++fr))(hk:o.rd<32)(h0:o.rd≠0)(ho:o.old=m o.rd):
  Dis P (nm m o) (tos t++fr)/\0<=o.old/\o.old<P/\o.old∉tos t++fr/\(∀r,r<32->nm m o r≠o.old)/\up (nm m o) o.rd o.old=m/\nm m o o.rd=o.to:=by
 have hd2:=Dis.nm hd hk
 have hr:=hd.rm _ hk
 have hap:=hd.apart _ hk
 rw[zT,if_neg h0,List.cons_append]at hap hd
 have hnm:nm m o=up m o.rd o.to:=by unfold nm;rw[if_neg h0]
 refine⟨hd2,by rw[ho];exact hr.1,by rw[ho];exact hr.2,fun h=>hap (by rw[<-ho];exact List.mem_cons_of_mem _ h),fun r hr' e=>?_,?_,?_⟩
 ·rw[hnm,ho]at e
  unfold Re.Hy.up at e
  split at e
  ·exact hap (by rw[<-e];exact List.mem_cons_self ..)
  ·rename_i hne
   exact hne (hd.inj r o.rd hr' hk e)
 ·rw[hnm,ho]
  funext r
  unfold Re.Hy.up
  split
  ·rename_i e;rw[e]
  ·rfl
 ·rw[hnm]
  unfold Re.Hy.up
  rw[if_pos rfl]
theorem zim:∀(l:List Sl) (k:Int),Goes l k (qW l k.toNat)
 |[],k=>⟨by simp[qW],fun j q h=>by simp[qW]at h,fun q h=>by simp at h⟩
 |q::l,k=>by
  by_cases hk:0<k
  ·obtain⟨j,hj⟩:∃j:Nat,k.toNat=j+1:=⟨k.toNat-1,by omega⟩
   have ih:=zim l (k-1)
   have e:(k-1).toNat=j:=by omega
   rw[e]at ih
   rw[hj]
   unfold qW
   split
   ·rename_i hq
    refine⟨by have:=ih.le;simp;omega,fun i p hi hp=>?_,fun p hp=>?_⟩
    ·cases i with
     |zero=>simp at hp;subst hp;exact⟨by show(0:Int)<k;omega,hq⟩
     |succ i=>
      have:=ih.go i p (by omega) (by simpa using hp)
      exact⟨by have:=this.1;push_cast;omega,this.2⟩
    ·have:=ih.stop p (by simpa using hp)
     intro⟨h1,h2⟩
     exact this ⟨by push_cast at h1;omega,h2⟩
   ·rename_i hq
    refine⟨by simp,fun i p hi=>absurd hi (by omega),fun p hp=>?_⟩
    simp at hp
    subst hp
    exact fun h=>hq h.2
  ·have e:k.toNat=0:=by omega
   rw[e]
   have e2:qW (q::l) 0=0:=by simp[qW]
   rw[e2]
   exact⟨by simp,fun i p hi=>absurd hi (by omega),fun p hp h=>hk (by have:=h.1;simpa using this)⟩
theorem zio{M:Mc}(hM:MOk M):∀(k:Nat) (s:Cr) (m:Nat->Int),Inv M s m->k<s.under.length->(∀o∈s.under.take (k+1),o.st=2)->∃m' o l,Inv M (comN M k s) m'/\(comN M k s).under=o::l/\s.under[k]?=some o/\o.st=2
 |0,s,m,I,hk,hd=>by
  cases hu:s.under with
  |nil=>rw[hu]at hk;simp at hk
  |cons o l=>
   refine⟨m,o,l,by rw[ju];exact I,by rw[ju];exact hu,rfl,hd o (by rw[hu];simp)⟩
 |k+1,s,m,I,hk,hd=>by
  cases hu:s.under with
  |nil=>rw[hu]at hk;simp at hk
  |cons o l=>
   have h2:o.st=2:=hd o (by rw[hu];simp)
   have hl:l≠[]:=fun h=>by rw[hu,h]at hk;simp at hk
   have h0:o.c.st=0:=Classical.byContradiction fun h=>by
    have:=I.ch
    rw[hu]at this
    exact hl (this.2.1 ⟨h2,h⟩)
   have I':=zet hM I hu h2 h0
   rw[zct I hu k]
   obtain⟨m',p,l',g1,g2,g3,g4⟩:=zio hM k (pop1 M s o l) (nm m o) I' (by show k<l.length;rw[hu]at hk;simp at hk;omega) (fun q hq=>hd q (by rw[hu,List.take_succ_cons];exact List.mem_cons_of_mem _ hq))
   exact⟨m',p,l',g1,g2,by rw[List.getElem?_cons_succ];exact g3,g4⟩
theorem zj6{P:Int}{m:Nat->Int}{o:Dg}{l:List Dg}{fr:List Int}(hd:Dis P m (tos (o::l)++fr))(hk:o.rd<32)(h0:o.rd≠0)(ho:o.old=m o.rd):
  0<=o.old/\o.old<P/\o.old∉fr/\∀r,r<32->mE m (o::l) r≠o.old:=by
 have hr:=hd.rm _ hk
 have hap:=hd.apart _ hk
 rw[zT,if_neg h0,List.cons_append]at hap hd
 refine⟨by rw[ho];exact hr.1,by rw[ho];exact hr.2,fun h=>hap (by rw[<-ho];exact List.mem_cons_of_mem _ (List.mem_append_right _ h)),fun r hr' e=>?_⟩
 have e2:mE m (o::l)=mE (nm m o) l:=rfl
 rw[e2,ho]at e
 rcases zbe l (nm m o) r with⟨r',rfl,h⟩|h
 ·rw[h]at e
  unfold nm at e
  rw[if_neg h0]at e
  unfold Re.Hy.up at e
  split at e
  ·exact hap (by rw[<-e];exact List.mem_cons_self ..)
  ·rename_i hne
   exact hne (hd.inj r' o.rd hr' hk e)
 ·rw[e]at h
  exact hap (List.mem_cons_of_mem _ (List.mem_append_left _ h))
def MS(M:Mc):Prop:=∀{x i} (pc a b:Int) (n:Nat),M.dcd x=some i->ldn i.op=0->(M.dow i pc a b n).many≠0->sts i=true/\(M.dow i pc a b n).many=stn i.op/\fits n (M.dow i pc a b n).pl (stn i.op)=true
theorem zmF{M:Mc}(hM:MOk M)(hS:MS M){s:Cr}{m:Nat->Int}(I:Inv M s m){o:Dg}{l:List Dg}(hu:s.under=o::l)(h2:o.st=2)(hm:o.c.many≠0):sts o.i=true/\o.c.many=stn o.i.op/\fits s.n o.c.pl (stn o.i.op)=true:=by
 have hloc:=zad (l1:=[]) (show Ch M s.n s.wd s.th s.pc m s.f ([]++o::l)from hu▸I.ch)
 by_cases hz:(fet M s.n s.f s.pc).2=0
 ·have hc:=hloc.com h2 hz
  have hin:=hloc.ins
  obtain⟨x,hx⟩:=vn (M:=M) hz
  have hin':o.i=(fet M s.n s.f s.pc).1:=hin
  rw[<-hin']at hx
  unfold comC at hc
  split at hc
  ·unfold qa at hc
   exfalso
   apply hm
   rw[hc]
   split<;>rfl
  ·rename_i h0
   have h0':ldn o.i.op=0:=Classical.byContradiction h0
   rw[hc]at hm⊢
   exact hS _ _ _ _ hx h0' hm
 ·have:=(hloc.bad hz).2
  rw[this]at hm
  exact absurd rfl hm
structure Al(M:Mc)(K:Int)(s:Cr)(m:Nat->Int):Prop where
 inv:Inv M s m
 rg:Rg K s
 uq:Uq s.asked
 low:33<=s.phys
 tak:0<=s.tak
 wid:1<=s.wide
 bck:0<=s.bck
theorem Al.mono{M:Mc}{K K':Int}{s:Cr}{m:Nat->Int}(h:Al M K s m)(hk:K<=K'):Al M K' s m:=⟨h.inv,h.rg.mono hk,h.uq,h.low,h.tak,h.wid,h.bck⟩
theorem Al.nms{M:Mc}(hM:MOk M){K:Int}{s:Cr}{m:Nat->Int}(h:Al M K s m):Nms s:=zpb hM h.inv h.low h.rg.phys
theorem Al.len{M:Mc}{K:Int}{s:Cr}{m:Nat->Int}(h:Al M K s m):s.under.length<=32:=by
 have:=h.rg.len
 rw[h.inv.slo,List.length_map]at this
 exact this
structure LoadI(M:Mc)(K:Int)(qs:List Int)(s:Cr)(m:Nat->Int):Prop where
 al:Al M K s m
 nod:qs.Nodup
 are:∀q∈qs,∀o∈s.under,o.seq=q->o.st=1
theorem zkT{M:Mc}{s:Cr}{m:Nat->Int}(I:Inv M s m){o:Dg}(ho:o∈s.under)(h:o.st=1):ldn o.i.op≠0:=by
 obtain⟨l1,l2,hu,hloc⟩:=xk I.ch ho
 rcases hloc.sta with e|⟨_,e⟩|e
 ·omega
 ·exact e
 ·omega
theorem zkU{M:Mc}(hR:MR M){s:Cr}{m:Nat->Int}(I:Inv M s m){o:Dg}(ho:o∈s.under)(h:o.st≠2):InOk o.i:=by
 obtain⟨l1,l2,hu,hloc⟩:=xk I.ch ho
 by_cases hz:(fet M s.n (fE s.f l1) (pE s.pc l1)).2=0
 ·obtain⟨x,hx⟩:=vn hz
  rw[<-hloc.ins]at hx
  exact hR.dcd hx
 ·exact absurd (hloc.bad hz).1 h
theorem Step.al{M:Mc}{K:Int}{s t:Cr}{m:Nat->Int}{l1 l2:List Dg}{o o':Dg}(h:Al M K s m)(S:Step s t l1 l2 o o')(I:Inv M t m){K':Int}(hR:Rg K' t)(hU:Uq t.asked)(hb:0<=t.bck):Al M K' t m:=
 ⟨I,hR,hU,by rw[S.same.phys];exact h.low,by rw[S.same.tak];exact h.tak,by rw[S.same.wide];exact h.wid,hb⟩
theorem zj7{s:Cr}(q:Int)(h:0<=s.bck):0<=(lodS s q).bck:=by
 unfold lodS
 split
 ·exact h
 ·split
  ·exact h
  ·unfold lod1
   simp only[]
   split
   ·split
    ·exact h
    ·exact jk _ _ _ h
   ·exact jk _ _ _ h
theorem zj8{M:Mc}{s:Cr}(q:Int)(h:0<=s.bck):0<=(staS M s q).bck:=by
 unfold staS
 split
 ·exact h
 ·unfold sta1
  split
  ·exact h
  ·exact jk _ _ _ h
theorem LoadI.step{M:Mc}(hM:MOk M){K:Int}{q:Int}{qs:List Int}{s:Cr}{m:Nat->Int}(h:LoadI M K (q::qs) s m):LoadI M (K+3) qs (lodS s q) m:=by
 obtain⟨hnq,hn2⟩:=List.nodup_cons.1 h.nod
 have hrg:Rg (K+3) (lodS s q):=zmu h.al.rg fun o ho e=>zkT h.al.inv ho (h.are q (List.mem_cons_self ..) o ho e)
 have huq:=zmz h.al.uq q
 have hbk:=zj7 q h.al.bck
 cases hf:s.under.find? (fun p=>decide (p.seq=q))with
 |none=>
  have e:lodS s q=s:=by unfold lodS;rw[hf]
  rw[e]
  exact⟨h.al.mono (by omega),hn2,fun p hp=>h.are p (List.mem_cons_of_mem _ hp)⟩
 |some o=>
  obtain⟨l1,l2,hu,rfl⟩:=jt hf
  have h1:=h.are o.seq (List.mem_cons_self ..) o (by rw[hu];simp) rfl
  obtain⟨I',o',S,hs',_⟩:=zbk hM h.al.inv hu h1
  obtain⟨l2',l3,e1,e2⟩:=S.under
  refine⟨S.al h.al I' hrg huq hbk,hn2,fun p hp r hr e=>?_⟩
  refine h.are p (List.mem_cons_of_mem _ hp) r ?_ e
  rw[e2]at hr
  rw[hu,e1]
  rcases List.mem_append.1 hr with h'|h'
  ·exact List.mem_append_left _ h'
  ·rcases List.mem_cons.1 h' with h'|h'
   ·rw[h',hs']at e;exact absurd hp (by rw[<-e];exact hnq)
   ·exact List.mem_append_right _ (List.mem_cons_of_mem _ (List.mem_append_left _ h'))
theorem LoadI.begin{M:Mc}{K:Int}{s:Cr}{m:Nat->Int}(h:Al M K s m):LoadI M K ((s.under.filter fun o=>decide (o.st=1)).map (·.seq)) s m:=by
 refine⟨h,xz h.inv.rise _,fun q hq o ho e=>?_⟩
 obtain⟨p,hp,rfl⟩:=List.mem_map.1 hq
 obtain⟨hp1,hp2⟩:=List.mem_filter.1 hp
 rw[jX h.inv.rise ho hp1 e]
 simpa using hp2
structure StartI(M:Mc)(K:Int)(qs:List Int)(s:Cr)(m:Nat->Int):Prop where
 al:Al M K s m
 nod:qs.Nodup
 are:∀q∈qs,∀o∈s.under,o.seq=q->o.st=0/\s.th o.a=true/\s.th o.b=true
theorem zbA{M:Mc}{s:Cr}{l1 l2:List Dg}{o:Dg}(hu:s.under=l1++o::l2)(hr:Rise s.under):staS M s o.seq=sta1 M s o:=by
 unfold staS
 rw[hu,yi (hu▸hr)]
theorem StartI.step{M:Mc}(hM:MOk M)(hR:MR M){K:Int}{q:Int}{qs:List Int}{s:Cr}{m:Nat->Int}(h:StartI M K (q::qs) s m):StartI M (K+2) qs (staS M s q) m:=by
 obtain⟨hnq,hn2⟩:=List.nodup_cons.1 h.nod
 have hbk:=zj8 (M:=M) q h.al.bck
 cases hf:s.under.find? (fun p=>decide (p.seq=q))with
 |none=>
  have e:staS M s q=s:=by unfold staS;rw[hf]
  rw[e]
  exact⟨h.al.mono (by omega),hn2,fun p hp=>h.are p (List.mem_cons_of_mem _ hp)⟩
 |some o=>
  obtain⟨l1,l2,hu,rfl⟩:=jt hf
  have ho:o∈s.under:=by rw[hu];simp
  have h1:=h.are o.seq (List.mem_cons_self ..) o ho rfl
  rw[zbA hu h.al.inv.rise]at hbk⊢
  obtain⟨I',o',S,hs',_⟩:=zbl hM h.al.inv hu h1.1 h1.2
  obtain⟨l2',l3,e1,e2⟩:=S.under
  refine⟨S.al h.al I' (zmv hR h.al.rg (h.al.rg.und o ho) (zkU hR h.al.inv ho (by omega))) (zmA h.al.uq o) hbk,hn2,fun p hp r hr e=>?_⟩
  have hm:r∈s.under:=by
   rw[e2]at hr
   rw[hu,e1]
   rcases List.mem_append.1 hr with h'|h'
   ·exact List.mem_append_left _ h'
   ·rcases List.mem_cons.1 h' with h'|h'
    ·rw[h',hs']at e;exact absurd hp (by rw[<-e];exact hnq)
    ·exact List.mem_append_right _ (List.mem_cons_of_mem _ (List.mem_append_left _ h'))
  obtain⟨x1,x2,x3⟩:=h.are p (List.mem_cons_of_mem _ hp) r hm e
  exact⟨x1,S.thr _ x2,S.thr _ x3⟩
theorem zpc{M:Mc}{K:Int}{s:Cr}{m:Nat->Int}(h:Al M K s m)(k:List Int):Al M K {s with scr:=k} m:=
 ⟨zhH h.inv k,⟨h.rg.win,h.rg.phys,h.rg.wide,h.rg.n,h.rg.f,h.rg.tb,h.rg.wd,h.rg.und,h.rg.ask,h.rg.fro,h.rg.len,h.rg.lenA,h.rg.bck,h.rg.tak⟩,h.uq,h.low,h.tak,h.wid,h.bck⟩
theorem StartI.begin{M:Mc}{K:Int}{s:Cr}{m:Nat->Int}(h:Al M K s m)(k:List Int)(j:Nat):StartI M K ((turn s (ready s)).take j) {s with scr:=k} m:=by
 refine⟨zpc h k,(zax (xz h.inv.rise _)).sublist (List.take_sublist _ _),fun q hq o ho e=>?_⟩
 have hq:=zer.1 (List.mem_of_mem_take hq)
 unfold ready at hq
 obtain⟨p,hp,rfl⟩:=List.mem_map.1 hq
 obtain⟨hp1,hp2⟩:=List.mem_filter.1 hp
 have ho:o∈s.under:=ho
 rw[jX h.inv.rise ho hp1 e]
 simp at hp2
 exact⟨hp2.1.1,hp2.1.2,hp2.2⟩
theorem Al.take{M:Mc}(hM:MOk M)(hR:MR M){K:Int}{s:Cr}{m:Nat->Int}(h:Al M K s m)(ho:s.opn=true):Al M (K+3) (tak1 M s).1 m:=by
 obtain⟨g1,g2,g3,_,_,_,_,_,_,_,_,_,gp,gw,gb,_⟩:=yH hM h.inv ho h.tak
 have ht:0<=(tak1 M s).1.tak:=by
  have:=h.tak
  by_cases h2:(tak1 M s).2=true
  ·obtain⟨o,_,_,e⟩:=g3 h2;omega
  ·rw[(g2 (by simpa using h2)).1];exact this
 exact⟨g1,zmm hR h.rg,zmB h.uq (zmC h.inv),by rw[gp];exact h.low,ht,by rw[gw];exact h.wid,by rw[gb];exact h.bck⟩
theorem zmG{M:Mc}{s:Cr}(k:Nat)(h:Uq s.asked):Uq (comN M k s).asked:=zcB h _
theorem zaC(M:Mc)(s:Cr):(commit M s).bck=s.bck/\(commit M s).tak=s.tak/\(commit M s).wide=s.wide/\(commit M s).phys=s.phys:=by
 have key:∀(l:List Dg) (s:Cr),(l.foldl (com1 M) s).bck=s.bck/\(l.foldl (com1 M) s).tak=s.tak/\(l.foldl (com1 M) s).wide=s.wide/\(l.foldl (com1 M) s).phys=s.phys:=by
  intro l
  induction l with
  |nil=>intro s;exact⟨rfl,rfl,rfl,rfl⟩
  |cons o l ih=>intro s;exact ih (com1 M s o)
 exact key _ s
theorem LoadI.all{M:Mc}(hM:MOk M):∀{qs:List Int} {K:Int} {s:Cr} {m:Nat->Int},LoadI M K qs s m->Al M (K+3*qs.length) (qs.foldl lodS s) m
 |[],K,s,m,h=>h.al.mono (by simp)
 |q::qs,K,s,m,h=>by
  have:=LoadI.all hM (h.step hM)
  rw[List.foldl_cons]
  exact this.mono (by simp;omega)
theorem StartI.all{M:Mc}(hM:MOk M)(hR:MR M):∀{qs:List Int} {K:Int} {s:Cr} {m:Nat->Int},StartI M K qs s m->Al M (K+2*qs.length) (qs.foldl (staS M) s) m
 |[],K,s,m,h=>h.al.mono (by simp)
 |q::qs,K,s,m,h=>by
  have:=StartI.all hM hR (h.step hM hR)
  rw[List.foldl_cons]
  exact this.mono (by simp;omega)
theorem Al.load{M:Mc}(hM:MOk M){K:Int}{s:Cr}{m:Nat->Int}(h:Al M K s m):Al M (K+96) (load s) m:=by
 have:=(LoadI.begin h).all hM
 refine this.mono ?_
 have h1:=List.length_filter_le (fun o:Dg=>decide (o.st=1)) s.under
 have h2:=h.len
 rw[List.length_map]
 omega
theorem zeJ(M:Mc)(s:Cr):∃k,start M s=((turn s (ready s)).take s.wide.toNat).foldl (staS M) {s with scr:=k}/\((if 1<(ready s).length then chS s else s)={s with scr:=k}):=by
 unfold start
 simp only[]
 split
 ·exact⟨s.scr.tail,rfl,rfl⟩
 ·exact⟨s.scr,rfl,rfl⟩
theorem Al.start{M:Mc}(hM:MOk M)(hR:MR M){K:Int}{s:Cr}{m:Nat->Int}(h:Al M K s m):Al M (K+8) (start M s) m:=by
 obtain⟨k,e,_⟩:=zeJ M s
 rw[e]
 refine((StartI.begin h k s.wide.toNat).all hM hR).mono ?_
 have h1:((turn s (ready s)).take s.wide.toNat).length<=s.wide.toNat:=by rw[List.length_take];omega
 have h2:=h.rg.wide
 omega
theorem Al.takes{M:Mc}(hM:MOk M)(hR:MR M):∀(k:Nat) {K:Int} {s:Cr} {m:Nat->Int},Al M K s m->Al M (K+3*k) (takN M k s) m
 |0,K,s,m,h=>h.mono (by omega)
 |k+1,K,s,m,h=>by
  unfold takN
  split
  ·rename_i ho
   split
   ·exact(Al.takes hM hR k (h.take hM hR ho)).mono (by omega)
   ·exact(h.take hM hR ho).mono (by omega)
  ·exact h.mono (by omega)
structure Gd(M:Mc)(h0:Hs)(s:Cr):Prop where
 good:Good M h0 s
 al:s.st=0->∃m,Al M (116*s.cyc) s m
theorem zcF{M:Mc}(hM:MOk M)(hR:MR M){h0:Hs}{K:Int}{s:Cr}{m:Nat->Int}(h:Al M K s m)(hs:s.st=0)(hr:Ref M h0 s)(h1:(commit M s).st=0):∃m',Al M K (commit M s) m':=by
 have hk:=yI s.slots (min s.wide (left s)).toNat
 have hlen:qW s.slots (min s.wide (left s)).toNat<=s.under.length:=by
  have:=hk.2
  rw[h.inv.slo,List.length_map]at this
  rw[h.inv.slo]
  exact this
 have hd:∀o∈s.under.take (qW s.slots (min s.wide (left s)).toNat),o.st=2:=by
  rw[h.inv.slo]
  exact xA s.under _
 obtain⟨_,_,g3,g4⟩:=zbn hM (h:=h0) _ s m h.inv hs hr hlen hd
 obtain⟨m',I'⟩:=g3 h1
 obtain⟨b1,b2,b3,b4⟩:=zaC M s
 exact⟨m',I',zig hR h.rg,zmG _ h.uq,by rw[b4];exact h.low,by rw[b2];exact h.tak,by rw[b3];exact h.wid,by rw[b1];exact h.bck⟩
theorem zkV{M:Mc}{K:Int}{s:Cr}{m:Nat->Int}(h:Al M K s m)(x:Int):Al M K {s with cyc:=x} m:=
 ⟨⟨h.inv.base,h.inv.ch,h.inv.reg,h.inv.en,h.inv.dis,h.inv.cnt,h.inv.rise,h.inv.low,h.inv.slo,h.inv.ask,h.inv.lat⟩,⟨h.rg.win,h.rg.phys,h.rg.wide,h.rg.n,h.rg.f,h.rg.tb,h.rg.wd,h.rg.und,h.rg.ask,h.rg.fro,h.rg.len,h.rg.lenA,h.rg.bck,h.rg.tak⟩,h.uq,h.low,h.tak,h.wid,h.bck⟩
theorem zip{M:Mc}{h0:Hs}{s:Cr}(h:Ref M h0 s)(x:Int):Ref M h0 {s with cyc:=x}:=⟨h.is,h.coms,h.runs⟩
theorem zj9{M:Mc}(hM:MOk M)(hR:MR M){h0:Hs}{s:Cr}(G:Gd M h0 s)(hs:s.st=0)(hc6:s.cyc<6000):Gd M h0 (cycle M s):=by
 obtain⟨g1,g2,g3,g4⟩:=yj hM G.good hs hc6
 refine⟨g1,fun h=>?_⟩
 obtain⟨m,A⟩:=G.al hs
 have A1:=zkV A (s.cyc+1)
 rw[g2]
 unfold cycle at h⊢
 simp only[]at h⊢
 by_cases h1:(commit M {s with cyc:=s.cyc+1}).st=0
 ·rw[if_pos h1]
  obtain⟨m',A2⟩:=zcF hM hR A1 hs (zip G.good.ref _) h1
  have hw:=A.rg.wide
  have hw1:=A.wid
  exact⟨m',((((A2.load hM).start hM hR).takes hM hR s.wide.toNat)).mono (by omega)⟩
 ·rw[if_neg h1]at h
  exact absurd h h1
theorem zka{M:Mc}(hM:MOk M)(win phys wide:Int)(n:Nat)(R:Nat->Int)(pc st ca:Int)(f:Nat->Int)(scr:List Int)(hw:1<=win)(hw2:win<=32)(hp:33<=phys)(hp2:phys<=96)(hwi:1<=wide)(hwi2:wide<=4)(hn:n<=4096)(hf:∀i,i<n->0<=f i/\f i<=255)(hR:∀i,i<32->U32 (R i))(hpc:U32 pc):Gd M ⟨R,pc,st,ca,f⟩ (begin win phys wide n R pc st ca f scr):=by
 have g:=zay (M:=M) win phys wide n R pc st ca f scr hw hp hp2 hwi
 refine⟨g,fun h=>?_⟩
 obtain⟨m,I⟩:=g.inv h
 exact⟨m,I,zj4 win phys wide n R pc st ca f scr hw2 hp2 hwi2 hn hf hR hpc,List.nodup_nil,hp,Int.le_refl _,hwi,Int.le_refl _⟩
end Go.Proofs.YtpiohehijkpghabGreatDoor.Co
