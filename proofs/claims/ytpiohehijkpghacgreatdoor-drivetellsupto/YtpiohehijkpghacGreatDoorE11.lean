/- What the core's run shows, cell by cell; the model's run where something is wrong. -/
import Derived.Test.YtpiohehijkpghacGreatDoorE10
set_option maxHeartbeats 2000000
set_option maxRecDepth 20000
set_option linter.unusedSimpArgs false
set_option linter.unusedVariables false
open Go.Proofs.Tryz
namespace Go.Proofs.YtpiohehijkpghacGreatDoor.Co
open Go.RowKit
open Hy
open Wi Od Re.Hy
open Gu.Hy (Tb tcs)
theorem kP{n:Nat}{x m:Int}:fits n x m=true↔0<=x/\x%m=0/\x+m<=n:=by unfold fits;simp
theorem zkv{i:In}(hi:InOk i){pc a:Int}{n:Nat}{f:Nat->Int}(hp:U32 pc)(h0:ldn i.op≠0)(hf:∀i,i<n->0<=f i/\f i<=255):CmR (qf n f i pc a):=by
 unfold qf
 split
 ·rename_i h
  obtain⟨x0,_,x1⟩:=kP.1 h
  exact zeM hp hi.lr (zh5 h0 λk hk=>hf _ (by omega))
 ·exact jC hp (by omega)
theorem zd0{n:Nat}{R:Nat->Int}{pc:Int}{f:Nat->Int}(hR:∀i,i<32->U32 (R i))(hp:U32 pc)(hf:∀i,i<n->0<=f i/\f i<=255):CmR (kC mach n R pc f)/\((kC mach n R pc f).st=0->(kC mach n R pc f).ca=0):=by
 unfold kC
 split
 ·rename_i h
  refine⟨jC hp ?_,λh=>absurd h (by show¬((2:Int)=0);omega)⟩
  unfold fet
  split
  ·split
   ·exact⟨by show(0:Int)<=0;omega,by show(0:Int)<=6;omega⟩
   ·exact⟨by show(0:Int)<=2;omega,by show(2:Int)<=6;omega⟩
  ·exact⟨by show(0:Int)<=1;omega,by show(1:Int)<=6;omega⟩
 ·rename_i h
  have hi:InOk (fet mach n f pc).1:=by
   revert h
   unfold fet
   split
   ·split
    ·rename_i i hd
     intro _
     exact vR hd
    ·intro h
     exact absurd (show(2:Int)≠0 by omega) h
   ·intro h
    exact absurd (show(1:Int)≠0 by omega) h
  generalize (fet mach n f pc).1=i at hi⊢
  have hra:ra i<32:=by unfold ra;split;omega;exact hi.l1
  have hrb:rb i<32:=by unfold rb;split;omega;exact hi.l2
  have ha:=hR _ hra
  have hb:=hR _ hrb
  generalize R (ra i)=a at ha⊢
  generalize R (rb i)=b at hb⊢
  unfold comC
  split
  ·rename_i h0
   refine⟨zkv hi hp h0 hf,?_⟩
   unfold qf
   split
   ·exact λ_=>rfl
   ·exact λh=>absurd h (by show¬((2:Int)=0);omega)
  ·refine⟨zkY hi hp ha hb,?_⟩
   show(doW i pc a b n).st=0->(doW i pc a b n).ca=0
   unfold doW
   split
   ·split
    ·exact λ_=>rfl
    ·exact λh=>absurd h (by show¬((2:Int)=0);omega)
   ·split
    ·exact λ_=>rfl
    ·split
     ·split
      ·exact λ_=>rfl
      ·split
       ·exact λ_=>rfl
       ·exact λh=>absurd h (by show¬((2:Int)=0);omega)
     ·split
      ·exact λh=>absurd h (by show¬((2:Int)=0);omega)
      ·exact λ_=>rfl
structure HsR(n:Nat)(h:Hs):Prop where
 R:∀i,i<32->U32 (h.R i)
 pc:U32 h.pc
 f:∀i,i<n->0<=h.f i/\h.f i<=255
 ca:h.st=0->h.ca=0
theorem HsR.next{n:Nat}{h:Hs}(H:HsR n h):HsR n (hsN mach n h):=by
 obtain⟨c,hc⟩:=zd0 H.R H.pc H.f
 refine⟨λi hi=>?_,c.next,λi hi=>?_,hc⟩
 ·show U32 (updC h.R (hsC mach n h) i)
  unfold updC
  split
  ·exact H.R i hi
  ·unfold up
   split
   ·exact c.val
   ·exact H.R i hi
 ·show 0<=stoC h.f (hsC mach n h) i/\stoC h.f (hsC mach n h) i<=255
  unfold stoC sto
  split
  ·omega
  ·exact H.f i hi
theorem HsR.at{n:Nat}{h:Hs}(H:HsR n h):∀k,HsR n (hsAt mach n h k)
 |0=>H
 |k+1=>(HsR.at H k).next
def hsH(h:Hs):Array Value:=hcs h.R h.pc h.st h.ca
theorem zcO(C:Nat->Cm):∀m,coms (λi=>cC (C i)) m=flat cml ((List.range m).map C)
 |0=>rfl
 |m+1=>by
  rw[List.range_succ,List.map_append,kI]
  show coms _ m++_=_
  rw[zcO C m]
  rfl
theorem zqc{i:In}(h:InOk i):ra i<32:=by
 unfold ra
 split<;>first|exact h.l1|omega
theorem zqd{i:In}(h:InOk i):rb i<32:=by
 unfold rb
 split<;>first|exact h.l2|omega
theorem zd1{w:World}{R:Nat->Int}{pc:Int}{p:Option Addr}{n c:Nat}{f:Nat->Int}(o:Ok w R pc p n c f):
  ∀W,Below w.heap.size w W->Calls prog 65 #[hv R pc 0 0,.slice p n c] W λe w'=>e=.returned (cvC (kC mach n R pc f))/\Below W.heap.size W w':=λW hW=>by
 have hn:=o.hn
 have ob:=o.bys
 have p1:=o.p1
 obtain⟨a,rfl⟩:=Int.eq_ofNat_of_zero_le o.p0
 unfold kC fet
 by_cases hf:fits n a 4=true
 ·obtain⟨_,f1,f2⟩:=kP.1 hf
  rw[if_pos hf]
  have CL:=ju ob 13 a (by omega) ⟨by decide,by show(a:Int)%4=0;omega,by show(a:Int)+4<=n;omega⟩
  have eX:ldv 13 (λi=>f (a+i))=le (λk=>f ((a:Int).toNat+k)) 4:=rfl
  have xr:0<=le (λk=>f ((a:Int).toNat+k)) 4/\le (λk=>f ((a:Int).toNat+k)) 4<=4294967295:=by
   have h:=Go.Proofs.YtpiohehijkpghacGreatDoor.le_rng (λk=>f ((a:Int).toNat+k)) 4 (by omega) (λi hi=>o.hf _ (by omega))
   rw[show p256 4=4294967296 from rfl]at h
   omega
  rw[eX]at CL
  generalize le (λk=>f ((a:Int).toNat+k)) 4=X at CL xr⊢
  have CD:=λW (hW:Below w.heap.size w W)=>zdE (x:=X) xr W (o.hT.below hW o.hT.size)
  cases hd:mach.dcd X with
  |some i=>
   have hd':dcdM X=some i:=hd
   rw[hd']at CD
   have hok:=vR hd
   have lx:=zqc hok
   have ly:=zqd hok
   obtain⟨a0,a1⟩:=o.hR (ra i) lx
   obtain⟨b0,b1⟩:=o.hR (rb i) ly
   show Calls prog 65 _ W λe w'=>e=.returned (cvC (allW n f i a (R (ra i)) (R (rb i))))/\_
   exact zdV (hcs R a 0 0) a p n c W X i.op i.im (R (ra i)) (R (rb i)) i.rd i.s1 i.s2 (ra i) (rb i) _ rfl (zdW R a 0 0 _ lx) (zdW R a 0 0 _ ly) lx ly (qZ _) (λW' hW'=>CL W' (under hW hW')) (λW' hW'=>CD W' (under hW hW')) (λW'=>zaG i W') (λW' hW'=>zhu i hok a (R (ra i)) (R (rb i)) o.p0 p1 a0 a1 b0 b1 W' (ob.below (under hW hW')) (o.hT2.below (under hW hW') o.hT2.size))
  |none=>
   have hd':dcdM X=none:=hd
   rw[hd']at CD
   exact zo6 (hcs R a 0 0) a X p n c W rfl (λW' hW'=>CL W' (under hW hW')) (λW' hW'=>CD W' (under hW hW'))
 ·rw[if_neg hf]
  exact znc (hcs R a 0 0) a 0 p n c W rfl (λW' hW'=>xC ob 13 a (by omega) (λh=>hf (kP.2 ⟨by omega,h.2.1,h.2.2⟩)) W' (under hW hW'))
structure Sh(n:Nat)(c:Cm):Prop where
 v:c.rd=0->c.val=0
 s:(c.st=0/\c.ca=0)\/(c.st=1/\c.ca=0)\/(c.st=2/\1<=c.ca/\c.ca<=6)
 m:c.many=0\/((c.many=1\/c.many=2\/c.many=4)/\c.pl+c.many<=n)
theorem zaj(n:Nat)(pc k:Int)(h:1<=k/\k<=6):Sh n (qn pc k):=⟨λ_=>rfl,.inr (.inr ⟨rfl,h.1,h.2⟩),.inl rfl⟩
theorem zne(n:Nat)(pc nx:Int)(rd:Nat)(v:Int):Sh n (zje pc nx rd v):=⟨λh=>if_pos h,.inl ⟨rfl,rfl⟩,.inl rfl⟩
theorem zo8(n:Nat)(pc:Int)(rd:Nat)(v:Int):Sh n (onC pc rd v):=⟨λh=>if_pos h,.inl ⟨rfl,rfl⟩,.inl rfl⟩
theorem zqe(i:In)(pc a b:Int)(n:Nat):Sh n (doW i pc a b n):=by
 unfold doW
 split
 ·rename_i hs
  split
  ·rename_i hf
   obtain⟨_,_,h3⟩:=kP.1 hf
   refine⟨λ_=>rfl,.inl ⟨rfl,rfl⟩,.inr ⟨?_,h3⟩⟩
   have ho:16<=i.op/\i.op<=18:=by simpa[sts]using hs
   show stn i.op=1\/stn i.op=2\/stn i.op=4
   obtain h|h|h:i.op=16\/i.op=17\/i.op=18:=by omega
   ·rw[h];decide
   ·rw[h];decide
   ·rw[h];decide
  ·exact zaj n pc 4 (by omega)
 split
 ·exact zo8 n pc 0 0
 split
 ·split
  ·exact⟨λ_=>rfl,.inr (.inl ⟨rfl,rfl⟩),.inl rfl⟩
  split
  ·exact⟨λ_=>rfl,.inl ⟨rfl,rfl⟩,.inl rfl⟩
  ·exact zaj n pc 5 (by omega)
 split
 ·exact zaj n pc 6 (by omega)
 ·exact zne n pc _ i.rd _
theorem ziH(n:Nat)(R:Nat->Int)(pc:Int)(f:Nat->Int):Sh n (kC mach n R pc f):=by
 unfold kC
 split
 ·rename_i h
  refine zaj n pc _ ?_
  unfold fet at h⊢
  split
  ·split
   ·rename_i h2 _ _ h3
    rw[if_pos h2]at h
    simp only[h3]at h
    exact absurd rfl h
   ·exact⟨by show(1:Int)<=2;omega,by show(2:Int)<=6;omega⟩
  ·exact⟨by show(1:Int)<=1;omega,by show(1:Int)<=6;omega⟩
 ·unfold comC
  split
  ·unfold qf
   split
   ·exact zo8 n pc _ _
   ·exact zaj n pc 3 (by omega)
  ·exact zqe _ pc _ _ n
theorem zld(R:Nat->Int)(c:Cm):upd R c.rd c.val=updC R c:=by
 funext j
 unfold upd updC
 split
 ·rfl
 ·rfl
structure HsF(n:Nat)(h:Hs):Prop where
 r:HsR n h
 r0:h.R 0=0
 s:(h.st=0/\h.ca=0)\/(h.st=1/\h.ca=0)\/(h.st=2/\1<=h.ca/\h.ca<=6)
theorem HsF.next{n:Nat}{h:Hs}(H:HsF n h):HsF n (hsN mach n h):=by
 refine⟨H.r.next,?_,(ziH n h.R h.pc h.f).s⟩
 show updC h.R (hsC mach n h) 0=0
 rw[<-zld]
 unfold upd
 split
 ·exact H.r0
 ·rename_i h0
  rw[if_neg (λe=>h0 e.symm)]
  exact H.r0
theorem HsF.at{n:Nat}{h:Hs}(H:HsF n h):∀k,HsF n (hsAt mach n h k)
 |0=>H
 |k+1=>(HsF.at H k).next
theorem zo9{n:Nat}{h:Hs}(H:HsF n h)(hn:n<=4096)(h0:h.st=0)(W:World)(p:Option Addr)(c:Nat)(hnc:n<=c)(hm:Mem W p n h.f)(hT:Tab W)(hT2:Tab2 W):
  Calls prog 36 #[.agg (hsH h),.slice p n c] W λe w'=>(∃p' cap,e=.returned (.tuple #[.agg (cC (hsC mach n h)),.agg (hsH (hsN mach n h)),.slice p' n cap,.bool true])/\n<=cap/\Own w' W.heap.size p' n (hsN mach n h).f)/\Below W.heap.size W w':=by
 have hca:h.ca=0:=by rcases H.s with h|h|h<;>omega
 have e:hsH h=hcs h.R h.pc 0 0:=by show hcs h.R h.pc h.st h.ca=_;rw[h0,hca]
 rw[e]
 have o:Ok W h.R h.pc p n c h.f:=⟨H.r0,H.r.R,H.r.pc.1,H.r.pc.2,hn,hnc,hm,H.r.f,hT,hT2⟩
 obtain⟨C,hC⟩:∃C,C=hsC mach n h:=⟨_,rfl⟩
 have rg:=(zd0 H.r.R H.r.pc H.r.f).1
 have sh:=ziH n h.R h.pc h.f
 have CC:=zd1 o
 have eN:hsN mach n h=⟨updC h.R C,C.next,C.st,C.ca,stoC h.f C⟩:=by rw[hC];rfl
 have hpc:C.pc=h.pc:=by
  rw[hC]
  show(kC mach n h.R h.pc h.f).pc=h.pc
  unfold kC
  split
  ·rfl
  ·unfold comC
   split
   ·unfold qf
    split<;>rfl
   ·show(doW _ _ _ _ _).pc=_
    unfold doW
    repeat' split
    all_goals rfl
 rw[eN]
 have eS:kC mach n h.R h.pc h.f=C:=hC.symm
 rw[eS]at rg sh CC
 rw[<-hC]
 have d:Does n C.next C.st C.ca (C.rd:Int) C.rd C.val C.pl C.many C.pl.toNat C.many.toNat C.data:=by
  refine⟨rfl,(Int.toNat_of_nonneg rg.pl.1).symm,(Int.toNat_of_nonneg (by rcases rg.many with h|h|h|h<;>omega)).symm,rg.rd,sh.v,sh.s,?_,rg.data.1,rg.data.2,rg.next.1,rg.next.2,rg.val.1,rg.val.2⟩
  rcases sh.m with h|⟨h,h2⟩
  ·left;omega
  ·right
   have:=rg.pl.1
   refine⟨by omega,by omega⟩
 have eC:cvC C=cv h.pc C.next C.st C.ca (C.rd:Int) C.val C.pl C.many C.data C.out C.told:=by rw[<-hpc]
 have CC':∀W',Below W.heap.size W W'->Calls prog 65 #[hv h.R h.pc 0 0,.slice p n c] W' λe w'=>e=.returned (cv h.pc C.next C.st C.ca (C.rd:Int) C.val C.pl C.many C.data C.out C.told)/\Below W'.heap.size W' w':=λW' hW'=>by rw[<-eC];exact CC W' hW'
 have P:=zqb o d CC' W (Below.refl _ _)
 rw[<-eC,zld]at P
 exact P
theorem ze7{n:Nat}{h:Hs}(H:HsF n h)(W:World):Calls prog 25 #[.agg (hsH h)] W λe w'=>e=.returned (.bool true)/\Below W.heap.size W w':=by
 have c:=zeB (hsH h) (h.R 0) h.st h.ca rfl rfl rfl W
 have e:(h.R 0==0&&(((h.st==0||h.st==1)&&h.ca==0)||(h.st==2&&decide (1<=h.ca)&&decide (h.ca<=6))))=true:=by
  have r:=H.r0
  rcases H.s with⟨a,b⟩|⟨a,b⟩|⟨a,b,c⟩
  ·simp[r,a,b]
  ·simp[r,a,b]
  ·simp[r,a,b,c]
 rw[e]at c
 exact c
def xn(st:Nat->Int):Nat->Nat
 |0=>0
 |k+1=>if xn st k=k/\st k=0 then k+1 else xn st k
theorem zbC(st:Nat->Int):∀k,Stops st k (xn st k)
 |0=>⟨Nat.le_refl _,λj h=>absurd h (Nat.not_lt_zero j),.inl rfl⟩
 |k+1=>by
  have h:=zbC st k
  unfold xn
  split
  ·rename_i e
   refine⟨Nat.le_refl _,λj hj=>?_,.inl rfl⟩
   by_cases e2:j=k
   ·rw[e2];exact e.2
   ·exact h.runs j (by omega)
  ·rename_i e
   refine⟨by have:=h.le;omega,h.runs,.inr λh0=>?_⟩
   rcases h.end_ with d|d
   ·exact e ⟨d,by rw[d]at h0;exact h0⟩
   ·exact d h0
theorem zqf{n:Nat}{h:Hs}(H:HsF n h)(hn:n<=4096)(k:Nat)(hk:k<=2000)(W:World)(p:Option Addr)(c:Nat)(hM:Mem W p n h.f)(hT:Tab W)(hT2:Tab2 W):
  Calls prog 17 #[.agg (hsH h),.slice p n c,.int .i64 k] W λe w'=>(∃lp lc p' cap,e=.returned (.tuple #[.slice lp (xn (λi=>(hsAt mach n h i).st) k) lc,.agg (hsH (hsAt mach n h (xn (λi=>(hsAt mach n h i).st) k))),.slice p' n cap,.int .i64 0])/\w'.ownsRow W.heap.size 68 11 (.slice lp (xn (λi=>(hsAt mach n h i).st) k) lc) (xn (λi=>(hsAt mach n h i).st) k) (coms (λi=>cC (hsC mach n (hsAt mach n h i))) (xn (λi=>(hsAt mach n h i).st) k)))/\Below W.heap.size W w':=by
 refine(zku (λi=>hsH (hsAt mach n h i)) (λi=>cC (hsC mach n (hsAt mach n h i))) (λi=>(hsAt mach n h i).f) (λi=>(hsAt mach n h i).st) ⟨λi=>⟨rfl,jh _ _ _ _⟩,λi=>qZ _,λi=>rfl⟩ k n c p hk W ?_ ?_ ?_ ?_).mono ?_
 ·exact λW'=>ziG (hsH h) p n c k rfl (decide_eq_false (by omega)) (decide_eq_false (by omega)) (decide_eq_false (by omega)) (λW=>ze7 H W) W'
 ·exact λW' hW'=>zlc p n c h.f hn W' (hM.below hW')
 ·intro i W' q c' _ h0 hb hnc hm'
  exact zo9 (H.at i) hn h0 W' q c' hnc hm' (hT.below hb hT.size) (hT2.below hb hT2.size)
 ·intro i W' q c' _ h0
  exact zgd (hsH (hsAt mach n h i)) (hsAt mach n h i).st q n c' W' rfl rfl (by simpa using h0) (λW=>ze7 (H.at i) W)
 ·rintro e w' ⟨⟨m',lp,lc,p',cap,he,hs,ho,hcap,hO⟩,hb⟩
  obtain rfl:=hs.one (zbC _ k)
  exact⟨⟨lp,lc,p',cap,he,ho⟩,hb⟩
theorem znf{w:World}{r:Cr}{L:Sls}(hU:Us w 68 11 L.c r.coms.length (flat cml r.coms))(hM:∃p c,L.m=.slice p r.n c):(rowOf (shw r L) 40).all (·.oneCell')=true:=jf _ _ λi hi=>by
 show(kat r L (3+i)).oneCell'=true
 by_cases h0:i=0
 ·subst h0
  exact zla hU
 ·by_cases h1:i<36
  ·rw[show 3+i=4+(i-1) by omega,zdt _ L (i-1) (by omega)]
   exact zbr _ _ _ _ _
  ·rcases(by omega:i=36\/i=37\/i=38\/i=39)with rfl|rfl|rfl|rfl
   ·obtain⟨p',c',e⟩:=hM
    show L.m.oneCell'=true
    rw[e];rfl
   ·rfl
   ·rfl
   ·rfl
theorem zd2{win phys wide:Int}{hm:Bool}{n sn:Nat}{cyc:Int}(h:qm (mayC win phys wide) hm n sn cyc=0):(0<=cyc/\cyc<=6000)/\(1<=win/\win<=32)/\(33<=phys/\phys<=96)/\(1<=wide/\wide<=4):=by
 unfold qm at h
 have hw1:mayC win phys wide=true:=by
  cases hx:mayC win phys wide with
  |true=>rfl
  |false=>rw[if_pos (.inl hx)]at h;omega
 refine⟨Classical.byContradiction λhc=>?_,?_⟩
 ·split at h
  ·omega
  ·split at h
   ·omega
   ·first|omega|(rw[if_pos hc]at h;omega)
 ·unfold mayC at hw1
  simp at hw1
  omega
theorem zkw(H:Array Value)(p:Option Addr)(n c:Nat)(K E:Int)(hI:Hid (H.size=35))(hE:(E != 0)=true)(w:World)
  (CW:∀W,Calls prog 34 #[.agg H,.slice p n c,.int .i64 K] W λe w'=>e=.returned (.int .i64 E)/\Below W.heap.size W w'):
  Calls prog 17 #[.agg H,.slice p n c,.int .i64 K] w λe w'=>e=.returned (.tuple #[.slice none 0 0,hv (λ_=>0) 0 0 0,.slice none 0 0,.int .i64 E])/\Below w.heap.size w w':=by
 go_enter func17,ntmps17
 go_wp2_with(refine wpList_load_row rfl 27 _ rfl _ rfl 27 _ (0,0) _ (heap_alloc2_old _ _ _) underlying27 rfl (zW hI.out) ?_)
 refine(CW _).mono ?_
 rintro e w2 ⟨rfl,hk2⟩
 have hs2:=hk2.size
 simp at hs2
 have RZ:Hid (w2.heap[w.heap.size+1]?=some (.cells (hcs (λ_=>0) 0 0 0) 27 (0,0))):=(hk2.block _ (by simp)).trans (heap_alloc2_new _ _ _)
 have hb2:Below w.heap.size w w2:=(((Below.refl _ _).alloc (Nat.le_refl _) _).alloc (by simp) _).trans (hk2.mono (by simp;omega))
 clear hk2 CW
 go_upto_region 3 with fail
 go_wp2_with(refine wpList_store_row rfl 27 _ _ rfl _ _ rfl rfl 27 (hcs (λ_=>0) 0 0 0) RZ.out zq rfl zai ?_)
 refine bodyPost_ret (v:=.tuple #[.slice none 0 0,hv (λ_=>0) 0 0 0,.slice none 0 0,.int .i64 E]) ?_ rfl ⟨rfl,zc hb2 (by omega) _⟩
 have f2:=setRow_heap w2 (w.heap.size+1) _ (hcs (λ_=>0) 0 0 0) _ _ RZ.out
 have L2:=run_loadVar_row (P:=prog) _ _ 27 27 (hcs (λ_=>0) 0 0 0) (0,0) _ f2 underlying27 rfl zq
 simp[results,results17,asAddr,L2]
end Go.Proofs.YtpiohehijkpghacGreatDoor.Co
