/- From a row's list of variables to what the walks ask. -/
import Derived.Test.YtpiohehijkpghacGreatDoorE11
import Derived.Test.YtpiohehijkpghacGreatDoorE01
open Array renaming toList_inj->Ah
open Go.MemPlace renaming row->Aj
open List renaming getD_eq_getElem?_getD->Aa,getElem?_eq_getElem->Ab,sublist_append_right->Ad,getElem?_eq_none->Ae,Sublist->Ag,mem_map->Ai
open List.Sublist renaming refl->Af
open Option.some renaming inj->WZ
set_option linter.unusedSimpArgs false
set_option linter.unusedVariables false
open Go.Proofs.Tryz
namespace Go.Proofs.YtpiohehijkpghacGreatDoor.Dr
open Go.RowKit
open Hy
open Co Wi
def sH(p:Ps):Hs:=⟨p.R,p.pc,0,0,λi=>p.mem.getD i 0⟩
def yE(p:Ps)(x:Nat):Nat:=xn (λi=>(hsAt mach p.mem.length (sH p) i).st) x
def mCom(p:Ps)(i:Nat):Cm:=hsC mach p.mem.length (hsAt mach p.mem.length (sH p) i)
def moF(p:Ps)(x:Nat):Ou:=if 2000<x then⟨3,0,0,0,0,[]⟩else
 ⟨0,yE p x,(hsAt mach p.mem.length (sH p) (yE p x)).st,(hsAt mach p.mem.length (sH p) (yE p x)).ca,(hsAt mach p.mem.length (sH p) (yE p x)).pc,zA (λi=>(mCom p i).out) (λi=>(mCom p i).told) (yE p x)⟩
def cEr(p:Ps)(x:Nat):Int:=qm (mayC p.wi p.ph p.wd) true p.mem.length p.ch.length x
def cRn(p:Ps)(x:Nat):Cr:=Co.runN mach (x:Int).toNat (Co.begin p.wi p.ph p.wd p.mem.length p.R p.pc 0 0 (λi=>p.mem.getD i 0) p.ch)
def coF(p:Ps)(x:Nat):Ou:=if cEr p x≠0 then⟨cEr p x,0,0,0,0,[]⟩else
 ⟨0,(cRn p x).coms.length,(cRn p x).st,(cRn p x).ca,(cRn p x).pc,zA (λi=>((cRn p x).coms.getD i zcm).out) (λi=>((cRn p x).coms.getD i zcm).told) (cRn p x).coms.length⟩
def deF(x:Nat):Option In5:=(dcdM x).map λi=>⟨i.op,i.rd,i.s1,i.s2,i.im⟩
theorem zpa(p:Ps):rowD (hatD p) 35=hcs p.R p.pc 0 0:=by rfl
theorem zle(m:List Int):ucb m=Co.bcs (λi=>m.getD i 0) m.length:=by
 apply List.ext_getElem?
 intro i
 by_cases h:i<m.length
 ·rw[Co.ziz h]
  simp[ucb,h]
 ·rw[Ae (by simp[ucb];omega),Ae (by simp[Co.bcs];omega)]
theorem zd3{p:Ps}{may:Int->Int->Int->Bool}(h:POk may p):∀i,i<p.mem.length->0<=p.mem.getD i 0/\p.mem.getD i 0<=255:=λi hi=>by
 rw[Aa,Ab hi]
 exact h.hb _ (List.getElem_mem hi)
theorem zkx{p:Ps}{may:Int->Int->Int->Bool}(h:POk may p):HsF p.mem.length (sH p):=
 ⟨⟨λi _=>h.hR i,h.p0,zd3 h,λ_=>rfl⟩,h.r0,.inl ⟨rfl,rfl⟩⟩
theorem ze8{n:Nat}{h:Hs}(H:HsF n h):(0<=h.st/\h.st<=6)/\(0<=h.ca/\h.ca<=6):=by rcases H.s with h|h|h<;>omega
theorem ziI{n:Nat}{h:Hs}(H:HsF n h):0<=(hsC mach n h).told/\(hsC mach n h).told<=4294967295:=(zd0 H.r.R H.r.pc H.r.f).1.told
theorem zqg(p:Ps)(x:Nat)(h:POk mayC p):OuOk (moF p x):=by
 unfold moF
 split
 ·exact⟨by show(0:Int)<=3/\(3:Int)<=3;omega,by show 0<=24000;omega,by show(0:Int)<=0/\(0:Int)<=6;omega,by show(0:Int)<=0/\(0:Int)<=6;omega,by show(0:Int)<=0/\(0:Int)<=_;omega,(λx hx=>by cases hx),by show([]:List Int).length<=_;simp⟩
 ·rename_i hx
  have H:=(zkx h).at
  have hm:yE p x<=2000:=by have:=(zbC (λi=>(hsAt mach p.mem.length (sH p) i).st) x).le;show xn _ x<=_;omega
  exact⟨by show(0:Int)<=0/\(0:Int)<=3;omega,by show yE p x<=_;omega,(ze8 (H _)).1,(ze8 (H _)).2,(H _).r.pc,zaV _ λk _=>ziI (H k),by have:=xo (λi=>(mCom p i).out) (λi=>(mCom p i).told) (yE p x);show(zA _ _ _).length<=_;omega⟩
theorem zpb(p:Ps)(x:Nat):0<=cEr p x/\cEr p x<=3:=by
 unfold cEr qm
 repeat' split
 all_goals omega
theorem zng(p:Ps)(x:Nat)(h0:cEr p x=0):Co.Good mach (sH p) (cRn p x)/\(cRn p x).n=p.mem.length:=by
 obtain⟨hcy,hwi,hph,hwd⟩:=zd2 h0
 have G0:=zaF (M:=mach) p.wi p.ph p.wd p.mem.length p.R p.pc 0 0 (λi=>p.mem.getD i 0) p.ch hwi.1 hph.1 hph.2 hwd.1
 obtain⟨G,a,b,c,d⟩:=zcf zN (x:Int).toNat _ G0 (by show(0:Int)+_<=_;omega)
 exact⟨G,d⟩
theorem zqh(p:Ps)(x:Nat)(h:POk mayC p):OuOk (coF p x):=by
 unfold coF
 split
 ·exact⟨zpb p x,by show 0<=24000;omega,by show(0:Int)<=0/\(0:Int)<=6;omega,by show(0:Int)<=0/\(0:Int)<=6;omega,by show(0:Int)<=0/\(0:Int)<=_;omega,(λx hx=>by cases hx),by show([]:List Int).length<=_;simp⟩
 ·rename_i hx
  obtain⟨G,hn⟩:=zng p x (Classical.byContradiction λh=>hx h)
  have H:=(zkx h).at
  have e:=G.ref.is
  rw[hn]at e
  have hm:(cRn p x).coms.length<=2000:=by have:=G.most;omega
  have K:=H (cRn p x).coms.length
  rw[<-e]at K
  refine⟨by show(0:Int)<=0/\(0:Int)<=3;omega,by show(cRn p x).coms.length<=_;omega,(ze8 K).1,(ze8 K).2,K.r.pc,zaV _ λk hk=>?_,by have:=xo (λi=>((cRn p x).coms.getD i zcm).out) (λi=>((cRn p x).coms.getD i zcm).told) (cRn p x).coms.length;show(zA _ _ _).length<=_;omega⟩
  have ec:(cRn p x).coms.getD k zcm=hsC mach p.mem.length (hsAt mach p.mem.length (sH p) k):=by
   have hc:=G.ref.coms
   rw[hn]at hc
   have hg:(cRn p x).coms[k]?=some (hsC mach p.mem.length (hsAt mach p.mem.length (sH p) k)):=by
    rw[hc]
    simp[hk]
   rw[Aa,hg]
   rfl
  rw[ec]
  exact ziI (H k)
theorem ziJ{w:World}{a:Option Addr}{c:Nat}{l:List Cm}(h:LC w a l.length c 11 (flat cml l)):ComP w (.slice a l.length c) l.length (λi=>(l.getD i zcm).out) (λi=>(l.getD i zcm).told):=by
 refine⟨a,c,λk j=>((cml (l.getD k zcm))[j]?).getD undef,rfl,h.le,λh0=>?_,λk hk=>⟨rfl,rfl⟩,λk j hk hj=>?_⟩
 ·obtain⟨b,o,ha,hlt,hc⟩:=h.sure h0
  refine⟨b,o,ha,hlt,λk j hk hj=>?_⟩
  have hlk:l[k]?=some (l.getD k zcm):=by rw[Aa,Ab hk];rfl
  have hcj:(cml (l.getD k zcm))[j]?=some (((cml (l.getD k zcm))[j]?).getD undef):=by
   rw[Ab (by rw[zdq];exact hj)];rfl
  exact hc _ _ (qK zdq hlk hcj)
 ·have hcj:(cml (l.getD k zcm))[j]?=some (((cml (l.getD k zcm))[j]?).getD undef):=by
   rw[Ab (by rw[zdq];exact hj)];rfl
  exact zdr _ _ (List.mem_of_getElem? hcj)
theorem zaP{ot ot':Nat->Bool}{tl tl':Nat->Int}:∀n,(∀k,k<n->ot k=ot' k/\tl k=tl' k)->zA ot tl n=zA ot' tl' n
 |0,_=>rfl
 |n+1,h=>by
  unfold zA
  rw[zaP n (λk hk=>h k (by omega)),(h n (by omega)).1,(h n (by omega)).2]
theorem hcs0:(hcs (λ_=>0) 0 0 0).size=35:=rfl
theorem znh(W:World)(hT:Tab W)(hT2:Tab2 W)(N:Nat)(p:Ps)(M:Value)(x:Nat)(h:POk mayC p)(hx:x<4294967296)(ho:W.ownsRow N 5 1 M p.mem.length (ucb p.mem)):
  Calls prog 17 #[hvD p,M,.int .i64 (x:Int)] W λe w'=>RanM w' e (moF p x)/\Below W.heap.size W w':=by
 rw[zle]at ho
 obtain⟨a,c,rfl,hb,_⟩:=zaN ho h.hm (zd3 h)
 show Calls prog 17 #[.agg (rowD (hatD p) 35),_,_] W _
 rw[zpa]
 have H:=zkx h
 have hm:=h.hm
 by_cases h2:2000<x
 ·have e:moF p x=⟨3,0,0,0,0,[]⟩:=if_pos h2
  rw[e]
  refine(zkw (hcs p.R p.pc 0 0) a p.mem.length c x 3 rfl rfl W (λW'=>zdZ (hcs p.R p.pc 0 0) a p.mem.length c x rfl (decide_eq_false (by omega)) (decide_eq_false (by omega)) (decide_eq_true (by omega)) (λW=>ze7 H W) W')).mono λe w' ⟨he,hB⟩=>⟨⟨_,_,_,he,hcs0,jh _ _ _ _,⟨_,_,_,rfl⟩,λh0=>?_⟩,hB⟩
  exact absurd h0 (by show¬(3:Int)=0;omega)
 ·have e:moF p x=_:=if_neg h2
  rw[e]
  refine(zqf H hm x (by omega) W a c hb.hm hT hT2).mono ?_
  rintro e w' ⟨⟨lp,lc,p',cap,he,ho2⟩,hB⟩
  refine⟨⟨_,_,_,he,rfl,jh _ _ _ _,⟨_,_,_,rfl⟩,λ_=>?_⟩,hB⟩
  rw[zcO]at ho2
  obtain⟨l,hl⟩:∃l,l=(List.range (yE p x)).map (mCom p):=⟨_,rfl⟩
  have hll:l.length=yE p x:=by rw[hl];simp
  have ho3:w'.ownsRow W.heap.size 68 11 (.slice lp (yE p x) lc) (yE p x) (flat cml l):=by rw[hl];exact ho2
  obtain⟨a2,c2,e2,hL,_⟩:=qz ho3 (zeI zdr l)
  injection e2 with e3 e4 e5
  subst e3
  subst e5
  rw[<-hll]at hL
  have hP:=ziJ hL
  rw[hll]at hP
  refine⟨_,_,hP,zaP _ λk hk=>?_,rfl,rfl,rfl⟩
  have ek:l.getD k zcm=mCom p k:=by rw[Aa,hl];simp[hk]
  rw[ek]
  exact⟨rfl,rfl⟩
theorem zni{j:Nat}(hj:j<35):zsh (1+j)=hat (λ_=>0) 0 0 0 j:=by
 unfold zsh hat
 rw[if_neg (by omega)]
 by_cases h1:j<32
 ·rw[if_pos (by omega),if_pos h1]
 ·rcases(by omega:j=32\/j=33\/j=34)with rfl|rfl|rfl<;>rfl
theorem zky(f:Nat->Int)(n:Nat):∀u∈Co.bcs f n,u.oneCell'=true:=λu hu=>by
 obtain⟨i,_,rfl⟩:=Ai.1 hu
 rfl
theorem zkz(l:List Int):∀u∈Wi.ics l,u.oneCell'=true:=λu hu=>by
 obtain⟨i,_,rfl⟩:=Ai.1 hu
 rfl
theorem znj(W:World)(hT:Tab W)(hT2:Tab2 W)(N:Nat)(p:Ps)(M C:Value)(x:Nat)(h:POk mayC p)(hx:x<4294967296)(ho:W.ownsRow N 5 1 M p.mem.length (ucb p.mem))(hc:W.ownsRow N 3 1 C p.ch.length (ici p.ch)):
  Calls prog 6 #[cfD p,hvD p,M,C,.int .i64 (x:Int)] W λe w'=>RanC w' e (coF p x)/\Below W.heap.size W w':=by
 rw[zle]at ho
 have hc:W.ownsRow N 3 1 C p.ch.length (Wi.ics p.ch):=hc
 obtain⟨mp,mc,rfl,hM,_⟩:=qz ho (zky _ _)
 obtain⟨sp,sc,rfl,hS,_⟩:=qz hc (zkz _)
 show Calls prog 6 #[_,.agg (rowD (hatD p) 35),_,_,_] W _
 rw[zpa]
 have H:=zkx h
 have hm:=h.hm
 have hcl:=h.hcl
 have HH:Hid ((prog.info? 27).map (·.size)=some (hcs p.R p.pc 0 0).size):=zq
 have CM:Hid (∀W,Calls prog 25 #[.agg (hcs p.R p.pc 0 0)] W λe w'=>e=.returned (.bool true)/\Below W.heap.size W w'):=λW=>ze7 H W
 by_cases h0:cEr p x=0
 ·have e:coF p x=_:=if_neg (λhn=>hn h0)
  rw[e]
  refine(zm6 p.wi p.ph p.wd (hcs p.R p.pc 0 0) true HH CM mp p.mem.length mc sp p.ch.length sc x (by omega) (by omega) W p.R p.pc 0 0 (yh _ _ _ _) h0 hT hT2 (λi _=>h.hR i) h.p0 (λi=>p.mem.getD i 0) hM (zd3 h) p.ch rfl hS).mono ?_
  rintro e w' ⟨⟨L,rfl,hU,⟨p',c',hMm,_⟩,hG⟩,hB⟩
  obtain⟨r,hr⟩:∃r,r=cRn p x:=⟨_,rfl⟩
  have hU:Us w' 68 11 L.c r.coms.length (flat cml r.coms):=by rw[hr];exact hU
  have hMm:L.m=.slice p' r.n c':=by rw[hr];exact hMm
  obtain⟨lp,lc,hLc⟩:=hU.slice
  have hone:=znf hU ⟨p',c',hMm⟩
  show RanC w' (.returned (.tuple #[.agg (rowOf (shw (cRn p x) L) 40),.int .i64 0])) _/\_
  rw[<-hr]
  refine⟨⟨_,L.c,hcs r.R r.pc r.st r.ca,rfl,ze _ _,hone,?_,λj hj=>?_,rfl,jh _ _ _ _,⟨_,_,_,hLc⟩,λ_=>?_⟩,hB⟩
  ·rw[zw _ (by omega)]
   rfl
  ·rw[zw _ (by omega),yh,zw _ hj]
   show some (kat r L (3+(1+j)))=_
   unfold kat
   rw[if_neg (by omega),if_pos (by omega),show 3+(1+j)-4=j by omega]
  ·rw[hLc]at hU
   have hP:=ziJ hU.lc
   rw[<-hLc]at hP
   exact⟨_,_,hP,rfl,rfl,rfl,rfl⟩
 ·have e:coF p x=_:=if_pos h0
  rw[e]
  refine(zga p.wi p.ph p.wd (hcs p.R p.pc 0 0) true HH CM mp p.mem.length mc sp p.ch.length sc x (by omega) (by omega) W h0).mono λe w' ⟨he,hB⟩=>⟨⟨_,.slice none 0 0,hcs (λ_=>0) 0 0 0,he,ze _ _,jf _ _ λi _=>zdT i,?_,λj hj=>?_,rfl,jh _ _ _ _,⟨_,_,_,rfl⟩,λhz=>absurd hz h0⟩,hB⟩
  ·rw[zw _ (by omega)]
   rfl
  ·rw[zw _ (by omega),yh,zw _ hj,zni hj]
theorem zpc(x:Nat)(i:In5)(hx:x<4294967296)(h:deF x=some i):(0<=i.op/\i.op<=4294967295)/\(0<=i.rd/\i.rd<=4294967295)/\(0<=i.r1/\i.r1<=4294967295)/\(0<=i.r2/\i.r2<=4294967295)/\-2147483648<=i.im/\i.im<=2147483647:=by
 unfold deF at h
 cases hd:dcdM x with
 |none=>rw[hd]at h;cases h
 |some j=>
  rw[hd]at h
  cases h
  have hok:=vR hd
  have h1:=hok.lr
  have h2:=hok.l1
  have h3:=hok.l2
  have h4:=hok.o0
  have h5:=hok.o1
  exact⟨⟨by show 0<=j.op;omega,by show j.op<=_;omega⟩,⟨by show(0:Int)<=(j.rd:Int);omega,by show(j.rd:Int)<=_;omega⟩,⟨by show(0:Int)<=(j.s1:Int);omega,by show(j.s1:Int)<=_;omega⟩,⟨by show(0:Int)<=(j.s2:Int);omega,by show(j.s2:Int)<=_;omega⟩,hok.i0,hok.i1⟩
theorem lay_of{w:World}(he:Errs w)(hp:Pow w)(hT:Tab w)(hT2:Tab2 w):Lay w moF coF deF mayC where
 errs:=he
 pow:=hp
 may0:=by decide
 moOk:=λp x h _=>zqg p x h
 coOk:=λp x h _=>zqh p x h
 lmo:=λW hW N p M x h hx ho=>znh W (hT.below hW hT.size) (hT2.below hW hT2.size) N p M x h hx ho
 lco:=λW hW N p M C x h hx ho hc=>znj W (hT.below hW hT.size) (hT2.below hW hT2.size) N p M C x h hx ho hc
 lde:=λW hW x hx=>by
  refine(zdE (x:=(x:Int)) ⟨by omega,by omega⟩ W (hT.below hW hT.size)).mono λe w' ⟨h1,h2⟩=>⟨?_,h2⟩
  cases hd:dcdM x with
  |none=>
   have e2:deF x=none:=by unfold deF;rw[hd];rfl
   rw[e2]
   rw[hd]at h1
   exact h1
  |some j=>
   have e2:deF x=some ⟨j.op,j.rd,j.s1,j.s2,j.im⟩:=by unfold deF;rw[hd];rfl
   have e3:=zpc x _ hx e2
   rw[e2]
   rw[hd]at h1
   exact⟨h1,e3⟩
 decOk:=zpc
 lma:=λW a b c=>zeJ a b c W
end Go.Proofs.YtpiohehijkpghacGreatDoor.Dr
namespace Go.Proofs.YtpiohehijkpghacGreatDoor.Dr
open Go.RowKit
open Hy
theorem gPow:prog.globalNamed "internal/strconv.uint64pow10" =some 5:=by kernel_rfl
theorem zqi:(prog.globals[5]?).map (·.type)=some 272:=by kernel_rfl
theorem gSyn:prog.globalNamed "strconv.ErrSyntax" =some 3:=by kernel_rfl
theorem zqj:(prog.globals[3]?).map (·.type)=some 89:=by kernel_rfl
theorem gRan:prog.globalNamed "strconv.ErrRange" =some 4:=by kernel_rfl
theorem zqk:(prog.globals[4]?).map (·.type)=some 89:=by kernel_rfl
theorem k190:prog.cellsOf 190=1:=by kernel_rfl
theorem k272:prog.cellsOf 272=20:=by kernel_rfl
theorem laid_of{W:World}(h:laidMetH prog Rows.driveOnRow.laid W):Tab W/\Tab2 W/\Pow W/\Errs W:=by
 obtain⟨ps,⟨g,t,cs,fuel,p,q,hg,ht,hvar,hd,hrest,hps⟩,hnd,hcell⟩:=h
 obtain⟨_,_,_,_,_,q1,_,_,_,_,hrest,hps1⟩:=hrest
 obtain⟨_,_,_,_,_,q2,_,_,_,_,hrest,hps2⟩:=hrest
 obtain⟨g3,t3,cs3,fu3,p3,q3,hg3,ht3,hv3,hd3,hrest,hps3⟩:=hrest
 obtain⟨g4,t4,cs4,fu4,p4,q4,hg4,ht4,hv4,hd4,hrest,hps4⟩:=hrest
 obtain⟨g5,t5,cs5,fu5,p5,q5,hg5,ht5,hv5,hd5,hrest,_⟩:=hrest
 obtain⟨g6,t6,cs6,fu6,p6,q6,hg6,ht6,hv6,hd6,hrest,_⟩:=hrest
 have hsub:(Aj ⟨g,0,none⟩ cs.size++p++(Aj ⟨g4,0,none⟩ cs4.size++p4++[])).Sublist ps:=by
  rw[hps,hps1,hps2,hps3,hps4]
  refine(Af _).append ?_
  refine Ag.trans ?_ (Ad _ _)
  refine Ag.trans ?_ (Ad _ _)
  refine Ag.trans ?_ (Ad _ _)
  exact(Af _).append (List.nil_sublist _)
 obtain⟨hT,hT2⟩:=zcL (W:=W) ⟨_,⟨g,t,cs,fuel,p,_,hg,ht,hvar,hd,⟨g4,t4,cs4,fu4,p4,[],hg4,ht4,hv4,hd4,rfl,rfl⟩,rfl⟩,hnd.sublist hsub,λb off hb=>hcell b off (hsub.subset hb)⟩
 refine⟨hT,hT2,?_,?_,?_⟩
 ·obtain rfl:=WZ (gPow.symm.trans hg3)
  obtain rfl:=WZ (zqi.symm.trans ht3)
  unfold Pow Lib.TabIs
  rw[hv3,<-Lib.cells_of_tab (zs:=Lib.pow10Tab) underlying272 underlying190 k190 k272 hd3]
 ·obtain rfl:=WZ (gSyn.symm.trans hg6)
  obtain rfl:=WZ (zqj.symm.trans ht6)
  obtain⟨_,u,v,hc,_⟩:=iface_of_trod underlying89 hd6
  exact⟨u,v,by rw[hv6];congr 1;exact Ah.1 hc⟩
 ·obtain rfl:=WZ (gRan.symm.trans hg5)
  obtain rfl:=WZ (zqk.symm.trans ht5)
  obtain⟨_,u,v,hc,_⟩:=iface_of_trod underlying89 hd5
  exact⟨u,v,by rw[hv5];congr 1;exact Ah.1 hc⟩
end Go.Proofs.YtpiohehijkpghacGreatDoor.Dr
