/- That nobody can tell two cores of one hart and memory: the law. -/
import Derived.SizedLaws
import Derived.ChangeSlices
import Derived.Test.YtpiohehijkpghabGreatDoorS47
import Derived.Test.YtpiohehijkpghabGreatDoorS09
import Derived.Test.YtpiohehijkpghabGreatDoorS11
set_option maxRecDepth 100000
set_option maxHeartbeats 4000000
set_option linter.unusedSimpArgs false
set_option linter.unusedVariables false
open Go.Proofs.Tryz
namespace Go.Proofs.YtpiohehijkpghabGreatDoor.Co
open Go.RowKit
open Hy
open Wi Od Re.Hy
open Gu.Hy (Tb tcs)
theorem vM{Φ:World->Prop}{w:World}{A B C:Obj}(h:∀W:World,W.heap[w.heap.size]?=some A->W.heap[w.heap.size+1]?=some B->W.heap[w.heap.size+2]?=some C->Below w.heap.size w W->w.heap.size+3<=W.heap.size->Φ W):Φ (((w.alloc A).alloc B).alloc C):=by
 refine h _ ?_ ?_ ?_ ((((Below.refl _ _).alloc (Nat.le_refl _) _).alloc (by simp) _).alloc (by simp;omega) _) (by simp)
 ·rw[(((Below.refl ((w.alloc A).alloc B).heap.size ((w.alloc A).alloc B)).alloc (Nat.le_refl _) C)).block w.heap.size (by simp;omega)]
  exact heap_alloc2_old _ _ _
 ·rw[(((Below.refl ((w.alloc A).alloc B).heap.size ((w.alloc A).alloc B)).alloc (Nat.le_refl _) C)).block (w.heap.size+1) (by simp)]
  exact heap_alloc2_new _ _ _
 ·have:=heap_alloc_new ((w.alloc A).alloc B) C
  simpa using this
def zsh(i:Nat):Value:=if i=0 then .slice none 0 0 else if i<34 then .int .u32 0 else if i<36 then .int .i64 0 else if i=36 then .slice none 0 0 else .int .i64 0
theorem zcP:prog.built 32 []=some (rowOf zsh 40):=by kernel_rfl
theorem qO:(prog.info? 32).map (·.size)=some 40:=by kernel_rfl
theorem zdR(i:Nat):(zsh i).oneCell'=true:=by
 unfold zsh
 split
 ·rfl
 ·split
  ·rfl
  ·split
   ·rfl
   ·split<;>rfl
theorem ziF:∀(j:Nat) (x:Int),(rowOf zsh 40)[j]?≠some (.int .u8 x:Value):=fun j x h=>by
 have hj:j<40:=by have:=(Array.getElem?_eq_some_iff.1 h).1;rw[zf]at this;exact this
 rw[zp _ hj]at h
 have h:=Option.some.inj h
 unfold zsh at h
 split at h
 ·cases h
 ·split at h
  ·cases h
  ·split at h
   ·cases h
   ·split at h<;>cases h
theorem kL{w:World}{g k:Nat}{Y:Array Value}(h:k≠g):(w.setRow g Y).heap[k]?=w.heap[k]?:=setRow_other w g k _ h
def shw(s:Cr)(L:Sls)(i:Nat):Value:=kat s L (3+i)
theorem St.shown{N:Nat}{w:World}{b:Nat}{s:Cr}{L:Sls}(S:St N w b s L):w.rangeAt b 3 (rowOf (shw s L) 40).toList:=jB S.row (by omega) (fun j _=>rfl)
theorem zk1{w:World}{e size:Nat}{v:Value}{n:Nat}{xs:List Value}(h:Us w e size v n xs):v.oneCell'=true:=by
 obtain⟨p,c,rfl⟩:=h.slice
 rfl
theorem St.shown_ones{N:Nat}{w:World}{b:Nat}{s:Cr}{L:Sls}(S:St N w b s L):(rowOf (shw s L) 40).all (·.oneCell')=true:=je _ _ fun i hi=>by
 show(kat s L (3+i)).oneCell'=true
 by_cases h0:i=0
 ·subst h0
  exact zk1 S.its.ic
 ·by_cases h1:i<36
  ·have e:kat s L (3+i)=hat s.R s.pc s.st s.ca (i-1):=by rw[show 3+i=4+(i-1) by omega];exact zbs s L (i-1) (by omega)
   rw[e]
   exact zbx _ _ _ _ _
  ·rcases(by omega:i=36\/i=37\/i=38\/i=39)with rfl|rfl|rfl|rfl
   ·obtain⟨p,c,e,_⟩:=S.its.im
    show L.m.oneCell'=true
    rw[e];rfl
   ·rfl
   ·rfl
   ·rfl
theorem kM{P:Program}{ops:Array Oper}{rest:List Oper}{o:Oper}{a:Act}{w:World}{Q:Exit->Act->World->Prop}(hg:o.guard=none)(t:TypeId)(ho:o.op=.build t #[])(cells:Array Value)
  (hb:P.built t []=some cells)
  (h:wpList P ops Q rest (a.put o.dst (.agg cells)) w):wpList P ops Q (o::rest) a w:=
 jq hg t _ ho cells (by simp[hb]) h
theorem zeQ{w V W:World}{b:Nat}{L L':Sls}(h:Below w.heap.size w V)(T:To b V L W L')(hb:∀g,own b L g->w.heap.size<=g):Below w.heap.size w W:=
 ⟨T.os.trans h.os,T.tape.trans h.tape,T.output.trans h.output,Nat.le_trans h.size T.size,fun k hk=>(T.block k (Nat.lt_of_lt_of_le hk h.size) (fun ho=>by have:=hb k ho;omega)).trans (h.block k hk)⟩
theorem ziG{M:Mc}{k:Nat}{s:Cr}(h:¬s.st=0):runN M k s=s:=by
 cases k with
 |zero=>rfl
 |succ k=>unfold runN;rw[if_neg h]
theorem zga(win phys wide:Int)(H:Array Value)(hm:Bool)(HH:Hid ((prog.info? 27).map (·.size)=some H.size))(CM:Hid (∀W,Calls prog 16 #[.agg H] W fun e w'=>e=.returned (.bool hm)/\Below W.heap.size W w'))(mp:Option Addr)(n mc:Nat)(sp:Option Addr)(sn sc:Nat)(cyc:Int)(hn:n<=140737488355328)(hsn:sn<=140737488355328)(w:World)(CODE:zE (mayC win phys wide) hm n sn cyc≠0):
  Calls prog 5 #[.agg #[.int .i64 win,.int .i64 phys,.int .i64 wide],.agg H,.slice mp n mc,.slice sp sn sc,.int .i64 cyc] w fun e w'=>e=.returned (.tuple #[.agg (rowOf zsh 40),.int .i64 (zE (mayC win phys wide) hm n sn cyc)])/\Below w.heap.size w w':=by
 obtain⟨cd,hcd⟩:∃c,c=zE (mayC win phys wide) hm n sn cyc:=⟨_,rfl⟩
 rw[<-hcd]
 have HCD:Hid (cd=zE (mayC win phys wide) hm n sn cyc):=hcd
 clear hcd
 have CW:=fun W=>zaE win phys wide H hm HH CM mp n mc sp sn sc cyc hn hsn W
 obtain⟨code,hcode⟩:∃c,c=zE (mayC win phys wide) hm n sn cyc:=⟨_,rfl⟩
 rw[<-hcode]at CW CODE HCD
 clear hcode
 obtain⟨Z,hZ⟩:∃Z,Z=rowOf zsh 40:=⟨_,rfl⟩
 have HZ:Hid (prog.built 32 []=some Z):=by rw[hZ];exact zcP
 have HZI:Hid ((prog.info? 32).map (·.size)=some Z.size/\40=Z.size/\Z.all (·.oneCell')=true):=by rw[hZ];exact⟨by rw[zf];exact qO,(zf _ _).symm,je _ _ fun i _=>zdR i⟩
 have HZZ:Hid (Z=rowOf zsh 40):=hZ
 clear hZ
 go_enter func5,ntmps5
 go_upto_region 1 with fail
 refine vM (Φ:=fun W=>Code.wp _ _ _ _ W) ?_
 intro V e1 e2 e3 hb hsz
 have HQ:Hid (V.heap[w.heap.size+1]?=some (.cells H 27 (0,0))):=e2
 have HR0:Hid (∃cur,V.heap[w.heap.size+2]?=some (.cells cur 32 (0,0))/\cur.size=40/\∀(j:Nat) (x:Int),cur[j]?≠some (.int .u8 x:Value)):=⟨rowOf zsh 40,e3,zf _ _,ziF⟩
 have k0:V.cell? ⟨w.heap.size,0,none⟩=some (.int .i64 win):=by rw[cell_of_row _ _ _ _ _ _ e1];rfl
 have k1:V.cell? ⟨w.heap.size,1,none⟩=some (.int .i64 phys):=by rw[cell_of_row _ _ _ _ _ _ e1];rfl
 have k2:V.cell? ⟨w.heap.size,2,none⟩=some (.int .i64 wide):=by rw[cell_of_row _ _ _ _ _ _ e1];rfl
 have HB:Hid (Below w.heap.size w V):=hb
 have hqV:w.heap.size+2<V.heap.size:=by omega
 clear e1 e2 e3 hb hsz
 obtain⟨g,hg⟩:∃g,g=w.heap.size+2:=⟨_,rfl⟩
 obtain⟨h,hh⟩:∃h,h=w.heap.size+1:=⟨_,rfl⟩
 obtain⟨q,hq⟩:∃q,q=w.heap.size:=⟨_,rfl⟩
 rw[<-hg]at HR0 hqV⊢
 rw[<-hh]at HQ⊢
 rw[<-hq]at k0 k1 k2⊢
 have HQW:Hid (q=w.heap.size/\h=w.heap.size+1/\g=w.heap.size+2):=⟨hq,hh,hg⟩
 clear hq hh hg
 go_wp2_with(refine wpList_load_row rfl 27 _ rfl _ rfl 27 _ (0,0) _ HQ.out underlying27 rfl HH.out ?_)
 refine(CW _).mono ?_
 rintro e V1 ⟨rfl,hk1⟩
 have B1:Hid (Below w.heap.size w V1):=HB.out.trans (hk1.mono HB.out.size)
 have Q1:Hid (V1.heap[h]?=some (.cells H 27 (0,0))):=(hk1.block h (by have:=HQW.out;omega)).trans HQ.out
 obtain⟨cur,hcur,hcs,hc8⟩:=HR0.out
 have HC8:Hid (∀(j:Nat) (x:Int),cur[j]?≠some (.int .u8 x:Value)):=hc8
 clear hc8
 have R1:Hid (V1.heap[g]?=some (.cells cur 32 (0,0))):=(hk1.block g hqV).trans hcur
 have HCS:Hid (40=cur.size):=hcs.symm
 have hc:=HCD.out
 subst hc
 have hne:(cd != 0)=true:=by simpa using CODE
 clear hk1 HB HQ HR0 hcur hcs CW k0 k1 k2 CM HCD
 go_wp2_with(first|(refine kM rfl 32 rfl Z HZ.out ?_)|(refine wpList_store_row rfl 32 _ _ rfl _ _ rfl rfl 32 _ R1.out HZI.out.1 (HCS.out.symm.trans HZI.out.2.1) HZI.out.2.2 ?_))
 refine bodyPost_ret (v:=.tuple #[.agg Z,.int .i64 cd]) (xD results5 _ _ _ 32 _ (0,0) _ _ rfl rfl (yp R1.out) underlying32 rfl HZI.out.1) rfl ⟨by rw[HZZ.out],below_setRow B1.out _ (by have:=HQW.out;omega)⟩
theorem zmZ(win phys wide:Int)(H:Array Value)(hm:Bool)(HH:Hid ((prog.info? 27).map (·.size)=some H.size))(CM:Hid (∀W,Calls prog 16 #[.agg H] W fun e w'=>e=.returned (.bool hm)/\Below W.heap.size W w'))(mp:Option Addr)(n mc:Nat)(sp:Option Addr)(sn sc:Nat)(cyc:Int)(hn:n<=140737488355328)(hsn:sn<=140737488355328)(w:World)(R:Nat->Int)(pc st ca:Int)(hHr:H=rowOf (hat R pc st ca) 35)(CODE:zE (mayC win phys wide) hm n sn cyc=0)(tb:Tab w)(tb2:Tab2 w)(hR:∀i,i<32->U32 (R i))(hpc:U32 pc)(f:Nat->Int)(hM:LC w mp n mc 1 (bcs f n))(hf:∀i,i<n->0<=f i/\f i<=255)(scr:List Int)(hscr:scr.length=sn)(hS:LC w sp sn sc 1 (ics scr)):
  Calls prog 5 #[.agg #[.int .i64 win,.int .i64 phys,.int .i64 wide],.agg H,.slice mp n mc,.slice sp sn sc,.int .i64 cyc] w fun e w'=>(∃L:Sls,e=.returned (.tuple #[.agg (rowOf (shw (runN mach cyc.toNat (begin win phys wide n R pc st ca f scr)) L) 40),.int .i64 0])/\Us w' 64 11 L.c (runN mach cyc.toNat (begin win phys wide n R pc st ca f scr)).coms.length (flat cml (runN mach cyc.toNat (begin win phys wide n R pc st ca f scr)).coms)/\(∃p c,L.m=.slice p (runN mach cyc.toNat (begin win phys wide n R pc st ca f scr)).n c/\Bys w' p (runN mach cyc.toNat (begin win phys wide n R pc st ca f scr)).n c (runN mach cyc.toNat (begin win phys wide n R pc st ca f scr)).f)/\Gd mach ⟨R,pc,st,ca,f⟩ (runN mach cyc.toNat (begin win phys wide n R pc st ca f scr)))/\Below w.heap.size w w':=by
 have hC:=CODE
 unfold zE at hC
 have hw1:mayC win phys wide=true/\hm=true/\n<=4096:=by
  by_cases h:mayC win phys wide=false\/hm=false\/4096<n
  ·rw[if_pos h]at hC;omega
  ·refine⟨?_,?_,by omega⟩
   ·cases hx:mayC win phys wide with
    |true=>rfl
    |false=>exact absurd (.inl hx) h
   ·cases hx:hm with
    |true=>rfl
    |false=>exact absurd (.inr (.inl hx)) h
 rw[if_neg (by rw[hw1.1,hw1.2.1];simp;omega)]at hC
 have hsn3:¬3000<sn:=fun h=>by rw[if_pos h]at hC;omega
 rw[if_neg hsn3]at hC
 have hcy:0<=cyc/\cyc<=6000:=Classical.byContradiction fun h=>by rw[if_pos h]at hC;omega
 have hmy:(1<=win/\win<=32)/\(33<=phys/\phys<=96)/\(1<=wide/\wide<=4):=by
  have:=hw1.1
  unfold mayC at this
  simp at this
  omega
 have hn4:=hw1.2.2
 have G0:Hid (Gd mach ⟨R,pc,st,ca,f⟩ (begin win phys wide n R pc st ca f scr)):=zka zR win phys wide n R pc st ca f scr hmy.1.1 hmy.1.2 hmy.2.1.1 hmy.2.1.2 hmy.2.2.1 hmy.2.2.2 hn4 hf hR hpc
 obtain⟨cy,hcyN⟩:∃cy:Nat,cyc=(cy:Int):=Int.eq_ofNat_of_zero_le hcy.1
 subst hcyN
 have hcy6:cy<=6000:=by omega
 have ecy:((cy:Nat):Int).toNat=cy:=Int.toNat_natCast cy
 rw[ecy]
 obtain⟨s0,hs0⟩:∃s0,s0=begin win phys wide n R pc st ca f scr:=⟨_,rfl⟩
 obtain⟨r,hr⟩:∃r,r=runN mach cy s0:=⟨_,rfl⟩
 have CBg:Hid (∀W,Below w.heap.size w W->Calls prog 11 #[.agg #[.int .i64 win,.int .i64 phys,.int .i64 wide],.agg H,.slice mp n mc,.slice sp sn sc] W fun e w'=>(∃b L,e=.returned (.pointer (some ⟨b,0,none⟩))/\St w.heap.size w' b s0 L/\∀g,own b L g->W.heap.size<=g)/\Below W.heap.size W w'):=fun W hW=>by
  rw[hHr,hs0,<-hscr]
  rw[<-hscr]at hS
  exact zf9 hW.size tb.size tb2.size (tb.below hW tb.size) (tb2.below hW tb2.size) win phys wide hmy.2.1.1 hmy.2.1.2 R pc st ca mp n mc f (hM.below (Nat.le_refl _) hW) hn4 hf sp sc scr (hS.below (Nat.le_refl _) hW)
 rw[<-hs0]at G0⊢
 rw[<-hr]
 have HRR:Hid (runN mach cy s0=r):=hr.symm
 have hcyc0:Hid (s0.cyc=0):=by rw[hs0];rfl
 clear hC hw1 hsn3 hcy hmy hs0 hr ecy hHr tb tb2 hM hS hf hR hpc hscr
 have CW:=fun W=>zaE win phys wide H hm HH CM mp n mc sp sn sc (cy:Int) hn hsn W
 obtain⟨code,hcode⟩:∃c,c=zE (mayC win phys wide) hm n sn (cy:Int):=⟨_,rfl⟩
 rw[<-hcode]at CW CODE
 clear hcode
 obtain⟨Z,hZ⟩:∃Z,Z=rowOf zsh 40:=⟨_,rfl⟩
 have HZ:Hid (prog.built 32 []=some Z):=by rw[hZ];exact zcP
 have HZI:Hid ((prog.info? 32).map (·.size)=some Z.size/\40=Z.size/\Z.all (·.oneCell')=true):=by rw[hZ];exact⟨by rw[zf];exact qO,(zf _ _).symm,je _ _ fun i _=>zdR i⟩
 have HZZ:Hid (Z=rowOf zsh 40):=hZ
 clear hZ
 go_enter func5,ntmps5
 go_upto_region 1 with fail
 refine vM (Φ:=fun W=>Code.wp _ _ _ _ W) ?_
 intro V e1 e2 e3 hb hsz
 have HQ:Hid (V.heap[w.heap.size+1]?=some (.cells H 27 (0,0))):=e2
 have HR0:Hid (∃cur,V.heap[w.heap.size+2]?=some (.cells cur 32 (0,0))/\cur.size=40/\∀(j:Nat) (x:Int),cur[j]?≠some (.int .u8 x:Value)):=⟨rowOf zsh 40,e3,zf _ _,ziF⟩
 have k0:V.cell? ⟨w.heap.size,0,none⟩=some (.int .i64 win):=by rw[cell_of_row _ _ _ _ _ _ e1];rfl
 have k1:V.cell? ⟨w.heap.size,1,none⟩=some (.int .i64 phys):=by rw[cell_of_row _ _ _ _ _ _ e1];rfl
 have k2:V.cell? ⟨w.heap.size,2,none⟩=some (.int .i64 wide):=by rw[cell_of_row _ _ _ _ _ _ e1];rfl
 have HB:Hid (Below w.heap.size w V):=hb
 have hqV:w.heap.size+2<V.heap.size:=by omega
 clear e1 e2 e3 hb hsz
 obtain⟨g,hg⟩:∃g,g=w.heap.size+2:=⟨_,rfl⟩
 obtain⟨h,hh⟩:∃h,h=w.heap.size+1:=⟨_,rfl⟩
 obtain⟨q,hq⟩:∃q,q=w.heap.size:=⟨_,rfl⟩
 rw[<-hg]at HR0 hqV⊢
 rw[<-hh]at HQ⊢
 rw[<-hq]at k0 k1 k2⊢
 have HQW:Hid (q=w.heap.size/\h=w.heap.size+1/\g=w.heap.size+2):=⟨hq,hh,hg⟩
 clear hq hh hg
 go_wp2_with(refine wpList_load_row rfl 27 _ rfl _ rfl 27 _ (0,0) _ HQ.out underlying27 rfl HH.out ?_)
 refine(CW _).mono ?_
 rintro e V1 ⟨rfl,hk1⟩
 have B1:Hid (Below w.heap.size w V1):=HB.out.trans (hk1.mono HB.out.size)
 have Q1:Hid (V1.heap[h]?=some (.cells H 27 (0,0))):=(hk1.block h (by have:=HQW.out;omega)).trans HQ.out
 obtain⟨cur,hcur,hcs,hc8⟩:=HR0.out
 have HC8:Hid (∀(j:Nat) (x:Int),cur[j]?≠some (.int .u8 x:Value)):=hc8
 clear hc8
 have R1:Hid (V1.heap[g]?=some (.cells cur 32 (0,0))):=(hk1.block g hqV).trans hcur
 have HCS:Hid (40=cur.size):=hcs.symm
 subst CODE
 have k0':V1.cell? ⟨q,0,none⟩=some (.int .i64 win):=zn hk1 k0
 have k1':V1.cell? ⟨q,1,none⟩=some (.int .i64 phys):=zn hk1 k1
 have k2':V1.cell? ⟨q,2,none⟩=some (.int .i64 wide):=zn hk1 k2
 clear hk1 HB HQ HR0 hcur hcs CW CM k0 k1 k2
 go_wp2_with(refine wpList_load_row rfl 27 _ rfl _ rfl 27 _ (0,0) _ Q1.out underlying27 rfl HH.out ?_)
 refine(CBg.out _ B1.out).mono ?_
 rintro e V2 ⟨⟨b,L,rfl,u1,hbV⟩,hk2⟩
 have S2:Hid (St w.heap.size V2 b s0 L):=u1
 have B2:Hid (Below w.heap.size w V2):=B1.out.trans (hk2.mono B1.out.size)
 have R2:Hid (V2.heap[g]?=some (.cells cur 32 (0,0))):=(hk2.block g (Array.getElem?_eq_some_iff.1 R1.out).1).trans R1.out
 have hgL:¬own b L g:=fun ho=>by have:=hbV g ho;have:=(Array.getElem?_eq_some_iff.1 R1.out).1;omega
 have HGL:Hid (¬own b L g):=hgL
 clear u1 hk2 hgL CBg B1 Q1 R1 k0' k1' k2' hbV
 go_wp2_with fail
 go_loopw [30] (fun i wr=>∃k:Nat,k<=cy/\i=.int .i64 (k:Int)/\Hid (∃s' L',St w.heap.size wr b s' L'/\To b V2 L wr L'/\Gd mach ⟨R,pc,st,ca,f⟩ s'/\s'.cyc<=(k:Int)/\runN mach (cy-k) s'=r))
  (fun i _=>cy-(intOf i).toNat)
 case atStart=>exact⟨0,by omega,rfl,s0,L,S2.out,To.refl b V2 L,G0.out,by rw[hcyc0.out];exact Int.le_refl _,HRR.out⟩
 case round=>
  obtain⟨k,hk,rfl,s',L',S3,T3,G3,c3,R3⟩:=hrel
  have k37:wr.cell? ⟨b,37,none⟩=some (.int .i64 s'.st):=(zb S3.row (by omega)).trans rfl
  have HS3:Hid (St w.heap.size wr b s' L'):=S3
  have HT3:Hid (To b V2 L wr L'):=T3
  have HG3:Hid (Gd mach ⟨R,pc,st,ca,f⟩ s'/\s'.cyc<=(k:Int)/\runN mach (cy-k) s'=r):=⟨G3,c3,R3⟩
  clear S3 T3 G3 c3 R3 G0 HRR hcyc0
  by_cases hlt:k<cy
  ·by_cases h0:s'.st=0
   ·have k37':wr.cell? ⟨b,37,none⟩=some (.int .i64 0):=by rw[k37,h0]
    have CY:Hid (Calls prog 12 #[.pointer (some ⟨b,0,none⟩)] wr fun e w'=>e=.returned (.tuple #[])/\∃L'',St w.heap.size w' b (cycle mach s') L''/\To b wr L' w' L''):=zf6 HS3.out HG3.out.1 h0 (by have:=HG3.out.2.1;omega)
    have HG4:Hid (Gd mach ⟨R,pc,st,ca,f⟩ (cycle mach s')/\(cycle mach s').cyc<=((k+1:Nat):Int)/\runN mach (cy-(k+1)) (cycle mach s')=r):=by
     have h6:s'.cyc<6000:=by have:=HG3.out.2.1;omega
     refine⟨zj9 zR jx HG3.out.1 h0 h6,?_,?_⟩
     ·rw[(yj zR HG3.out.1.good h0 h6).2.1]
      have:=HG3.out.2.1
      push_cast
      omega
     ·have:=HG3.out.2.2
      obtain⟨j,hj⟩:∃j,cy-k=j+1:=⟨cy-k-1,by omega⟩
      rw[hj,runN,if_pos h0]at this
      rw[show cy-(k+1)=j by omega]
      exact this
    clear HG3 k37 h0
    go_wp2_with fail
    refine CY.out.mono ?_
    rintro e V4 ⟨rfl,L4,u4,t4⟩
    have S4:Hid (St w.heap.size V4 b (cycle mach s') L4):=u4
    have T4:Hid (To b V2 L V4 L4):=HT3.out.trans t4
    clear u4 t4 HS3 HT3 CY k37'
    go_wp2_with fail
    exact⟨⟨k+1,by omega,by go_num,_,L4,S4.out,T4.out,HG4.out.1,HG4.out.2.1,HG4.out.2.2⟩,by simp[intOf];omega⟩
   ·have hst:((s'.st:Int) != 0)=true:=by simpa using h0
    have HRS:Hid (s'=r):=by show _=_;rw[<-HG3.out.2.2,ziG h0]
    have HGX:Hid (Gd mach ⟨R,pc,st,ca,f⟩ s'):=HG3.out.1
    clear HG3 h0
    have e:=HRS.out
    subst e
    have B3:Hid (Below w.heap.size w wr):=zeQ B2.out HT3.out (fun g hg=>S2.out.its.base g hg)
    have R3:Hid (wr.heap[g]?=some (.cells cur 32 (0,0))):=(HT3.out.block g (Array.getElem?_eq_some_iff.1 R2.out).1 HGL.out).trans R2.out
    obtain⟨Y,hY⟩:∃Y,Y=(rowOf (shw s' L') 40).toList.toArray:=⟨_,rfl⟩
    have HY:Hid (Y=(rowOf (shw s' L') 40).toList.toArray):=hY
    have HYI:Hid ((prog.info? 32).map (·.size)=some Y.size/\40=Y.size/\Y.all (·.oneCell')=true):=by rw[hY];refine⟨?_,?_,HS3.out.shown_ones⟩<;>rw[Array.toArray_toList,zf];exact qO
    have HSL:Hid ((prog.info? 32).map (·.size)=some (rowOf (shw s' L') 40).toList.length):=by show _=_;rw[Array.length_toList,zf];exact qO
    have HGO:Hid (¬own b L' g):=fun ho=>qn HT3.out.fresh HGL.out (Array.getElem?_eq_some_iff.1 R2.out).1 ho
    have HGD:Hid (Gd mach ⟨R,pc,st,ca,f⟩ s'):=HGX.out
    clear hY HRS
    go_wp2_with(first|(refine wpList_load_mid rfl 32 _ rfl b 3 rfl (rowOf (shw s' L') 40).toList _ HS3.out.shown underlying32 rfl HSL.out ?_;rw[<-HY.out])|(refine wpList_store_row rfl 32 _ _ rfl _ _ rfl rfl 32 _ R3.out HYI.out.1 (HCS.out.symm.trans HYI.out.2.1) HYI.out.2.2 ?_))
    refine bodyPost_ret (v:=.tuple #[.agg Y,.int .i64 0]) (xD results5 _ _ _ 32 _ (0,0) _ _ rfl rfl (yp R3.out) underlying32 rfl HYI.out.1) rfl ⟨⟨L',by rw[HY.out],?_,?_,HGD.out⟩,below_setRow B3.out _ (by have:=HQW.out;omega)⟩
    ·exact HS3.out.its.ic.move fun x hx=>kL (fun e=>HGO.out (.inr (.inl (by rw[<-e];exact hx))))
    ·obtain⟨pm,cm,em,hm'⟩:=HS3.out.its.im
     refine⟨pm,cm,em,xC hm' fun h0 x hx=>kL (fun e=>?_)⟩
     obtain⟨g',o',e',hl⟩:=hm'.hm h0
     rw[hx]at e'
     cases e'
     have hcl:=hl 0 h0
     rw[show g'=g from e,cell_of_row _ _ _ _ _ _ R3.out]at hcl
     exact HC8.out _ _ hcl
  ·have HRS:Hid (s'=r):=by
    show _=_
    have:=HG3.out.2.2
    rw[show cy-k=0 by omega]at this
    exact this
   have HGX:Hid (Gd mach ⟨R,pc,st,ca,f⟩ s'):=HG3.out.1
   clear HG3
   have e:=HRS.out
   subst e
   have B3:Hid (Below w.heap.size w wr):=zeQ B2.out HT3.out (fun g hg=>S2.out.its.base g hg)
   have R3:Hid (wr.heap[g]?=some (.cells cur 32 (0,0))):=(HT3.out.block g (Array.getElem?_eq_some_iff.1 R2.out).1 HGL.out).trans R2.out
   obtain⟨Y,hY⟩:∃Y,Y=(rowOf (shw s' L') 40).toList.toArray:=⟨_,rfl⟩
   have HY:Hid (Y=(rowOf (shw s' L') 40).toList.toArray):=hY
   have HYI:Hid ((prog.info? 32).map (·.size)=some Y.size/\40=Y.size/\Y.all (·.oneCell')=true):=by rw[hY];refine⟨?_,?_,HS3.out.shown_ones⟩<;>rw[Array.toArray_toList,zf];exact qO
   have HSL:Hid ((prog.info? 32).map (·.size)=some (rowOf (shw s' L') 40).toList.length):=by show _=_;rw[Array.length_toList,zf];exact qO
   have HGO:Hid (¬own b L' g):=fun ho=>qn HT3.out.fresh HGL.out (Array.getElem?_eq_some_iff.1 R2.out).1 ho
   have HGD:Hid (Gd mach ⟨R,pc,st,ca,f⟩ s'):=HGX.out
   clear hY HRS
   go_wp2_with(first|(refine wpList_load_mid rfl 32 _ rfl b 3 rfl (rowOf (shw s' L') 40).toList _ HS3.out.shown underlying32 rfl HSL.out ?_;rw[<-HY.out])|(refine wpList_store_row rfl 32 _ _ rfl _ _ rfl rfl 32 _ R3.out HYI.out.1 (HCS.out.symm.trans HYI.out.2.1) HYI.out.2.2 ?_))
   refine bodyPost_ret (v:=.tuple #[.agg Y,.int .i64 0]) (xD results5 _ _ _ 32 _ (0,0) _ _ rfl rfl (yp R3.out) underlying32 rfl HYI.out.1) rfl ⟨⟨L',by rw[HY.out],?_,?_,HGD.out⟩,below_setRow B3.out _ (by have:=HQW.out;omega)⟩
   ·exact HS3.out.its.ic.move fun x hx=>kL (fun e=>HGO.out (.inr (.inl (by rw[<-e];exact hx))))
   ·obtain⟨pm,cm,em,hm'⟩:=HS3.out.its.im
    refine⟨pm,cm,em,xC hm' fun h0 x hx=>kL (fun e=>?_)⟩
    obtain⟨g',o',e',hl⟩:=hm'.hm h0
    rw[hx]at e'
    cases e'
    have hcl:=hl 0 h0
    rw[show g'=g from e,cell_of_row _ _ _ _ _ _ R3.out]at hcl
    exact HC8.out _ _ hcl
theorem zqe(c:Cm):∀w,(binOp .neq 64 (.agg (cml c).toArray) (.agg (cml c).toArray)).run prog w=.ok (.bool false) w:=by
 intro w
 unfold cml
 go_simp
theorem zm0(p1 p2:Option Addr)(c1 c2:Nat)(w:World):Calls prog 8 #[.slice p1 0 c1,.slice p2 0 c2] w fun e w'=>e=.returned (.bool true)/\Below w.heap.size w w':=by
 go_enter func8,ntmps8
 go_wp2
 go_loopw [5] (fun ct wr=>ct=.int .i64 0/\wr=w) (fun _ _=>0)
 case atStart=>exact⟨rfl,rfl⟩
 case round=>
  obtain⟨rfl,rfl⟩:=hrel
  go_wp2
  go_ret
  exact⟨rfl,Below.refl _ _⟩
theorem zm1(C:Nat->List Value)(g1 o1 g2 o2 m c1 c2:Nat)(hm:m<=4000)(hC:Hid (∀i,(C i).length=11))(hq:∀j w,(binOp .neq 64 (.agg (C j).toArray) (.agg (C j).toArray)).run prog w=.ok (.bool false) w)(w:World)(r1:Hid (∀j,j<m->w.rangeAt g1 (o1+j*11) (C j)))(r2:Hid (∀j,j<m->w.rangeAt g2 (o2+j*11) (C j))):
  Calls prog 8 #[.slice (some ⟨g1,o1,none⟩) m c1,.slice (some ⟨g2,o2,none⟩) m c2] w fun e w'=>e=.returned (.bool true)/\Below w.heap.size w w':=by
 go_enter func8,ntmps8
 go_wp2
 go_loopw [5] (fun ct wr=>∃i:Nat,i<=m/\ct=.int .i64 i/\Hid (wr.heap=w.heap/\Below w.heap.size w wr)) (fun ct _=>m-(intOf ct).toNat)
 case atStart=>exact⟨0,by omega,rfl,rfl,Below.refl _ _⟩
 case round=>
  obtain⟨i,him,rfl,hrel⟩:=hrel
  by_cases hlt:i<m
  ·have hI:Hid ((prog.info? 64).map (·.size)=some (C i).length):=za.trans (congrArg some (hC.out i).symm)
   have hq:=hq i
   go_upto_region 6 with fail
   refine wp_region_held_drew (S:=fun w'=>w'.heap=w.heap) (by kernel_rfl) hrel.out.1 (fun hH=>?_)
   refine tI 0 (.slice (some ⟨g1,o1,none⟩) m c1) rfl hH ?_;try go_simp
   refine tI 1 (.int .i64 i) rfl hH ?_;try go_simp
   refine tI 2 (.pointer (some ⟨g1,o1+i*11,none⟩)) rfl hH ?_;try go_simp
   refine tH 3 (.agg (C i).toArray) rfl (yieldsIf_load_mid (by rfl) 64 _ rfl g1 (o1+i*11) rfl (C i) _ (fun w' hSw j v hv=>(World.cell?_of_block (w:=w) (a:=⟨g1,o1+i*11+j,none⟩) (by rw[hSw])).trans (r1.out i hlt j v hv)) underlying64 rfl hI.out) hH ?_;try go_simp
   refine tI 4 (.slice (some ⟨g2,o2,none⟩) m c2) rfl hH ?_;try go_simp
   refine tI 5 (.int .i64 i) rfl hH ?_;try go_simp
   refine tI 6 (.pointer (some ⟨g2,o2+i*11,none⟩)) rfl hH ?_;try go_simp
   refine tH 7 (.agg (C i).toArray) rfl (yieldsIf_load_mid (by rfl) 64 _ rfl g2 (o2+i*11) rfl (C i) _ (fun w' hSw j v hv=>(World.cell?_of_block (w:=w) (a:=⟨g2,o2+i*11+j,none⟩) (by rw[hSw])).trans (r2.out i hlt j v hv)) underlying64 rfl hI.out) hH ?_;try go_simp
   refine tI 8 (.bool false) rfl hH ?_;try go_simp
   refine wpAnyH_done (by kernel_rfl) ?_ _
   try go_simp
   go_wp2_with fail
   go_roundw
   case rel=>exact⟨i+1,by omega,by go_num,hrel.out.1,hrel.out.2.drew⟩
   case measure=>simp[intOf];omega
  ·obtain rfl:i=m:=by omega
   go_wp2_with fail
   go_ret
   exact⟨rfl,hrel.out.2⟩
theorem zk2{w:World}{p:Option Addr}{n c:Nat}{l:List Cm}(h:LC w p n c 11 (flat cml l))(hl:l.length=n)(h0:0<n):∃g o,p=some ⟨g,o,none⟩/\∀j,j<n->w.rangeAt g (o+j*11) (cml (l.getD j zcm)):=by
 obtain⟨g,o,rfl,_,hc⟩:=h.sure h0
 refine⟨g,o,rfl,fun j hj i u hu=>?_⟩
 have hx:l[j]?=some (l.getD j zcm):=by rw[List.getD_eq_getElem?_getD,List.getElem?_eq_getElem (by omega)];rfl
 have:=hc _ _ (qJ zhM hx hu)
 rw[show o+j*11+i=o+(j*11+i) by omega]
 exact this
theorem zqf{w:World}{p1 p2:Option Addr}{n c1 c2:Nat}{l:List Cm}(hl:l.length=n)(hn:n<=4000)(h1:LC w p1 n c1 11 (flat cml l))(h2:LC w p2 n c2 11 (flat cml l)):
  Calls prog 8 #[.slice p1 n c1,.slice p2 n c2] w fun e w'=>e=.returned (.bool true)/\Below w.heap.size w w':=by
 by_cases h0:n=0
 ·subst h0
  exact zm0 p1 p2 c1 c2 w
 ·obtain⟨g1,o1,rfl,r1⟩:=zk2 h1 hl (by omega)
  obtain⟨g2,o2,rfl,r2⟩:=zk2 h2 hl (by omega)
  exact zm1 (fun j=>cml (l.getD j zcm)) g1 o1 g2 o2 n c1 c2 hn (fun _=>zhM _) (fun j w=>zqe _ w) w r1 r2
theorem xg{P:Program}{ops:Array Oper}{rest:List Oper}{o:Oper}{a:Act}{w:World}{Q:Exit->Act->World->Prop}(hw:Region.wanted o (yielded ops a.tmps)=true)(ty:TypeId)(x:Operand)(ho:o.op=.load ty x)
  (g:Nat) (hx:a.eval x=.pointer (some ⟨g,0,none⟩)) (t:TypeId) (cs:Array Value) (fr:Nat×Nat) (d:TypeDesc) (hg:w.heap[g]?=some (.cells cs t fr))
  (hu:P.underlying ty=some d) (hd:(match d with|.struct _|.array _ _=>true|_=>false)=true) (hi:(P.info? ty).map (·.size)=some cs.size)
  (h:wpList P ops Q rest (a.put o.dst (.agg cs)) w):wpList P ops Q (o::rest) a w:=by
 unfold wpList
 rw[if_pos hw]
 exact Or.inl (wp_load_row ty x ho g hx t cs fr d hg hu hd hi h)
theorem zgb(win phys wide:Int)(H:Array Value)(hm:Bool)(HH:Hid ((prog.info? 27).map (·.size)=some H.size))(CM:Hid (∀W,Calls prog 13 #[.agg H] W fun e w'=>e=.returned (.bool hm)/\Below W.heap.size W w'))(mp:Option Addr)(n mc:Nat)(sp:Option Addr)(sn sc:Nat)(cyc:Int)(hn:n<=140737488355328)(hsn:sn<=140737488355328)(w:World):
  Calls prog 6 #[.agg #[.int .i64 win,.int .i64 phys,.int .i64 wide],.agg H,.slice mp n mc,.slice sp sn sc,.int .i64 cyc] w fun e w'=>e=.returned (.int .i64 (zE (mayC win phys wide) hm n sn cyc))/\Below w.heap.size w w':=by
 have HM:Hid (¬((1<=win/\win<=32)/\(33<=phys/\phys<=96)/\(1<=wide/\wide<=4))->(2:Int)=zE (mayC win phys wide) hm n sn cyc):=fun h=>by
  have e:mayC win phys wide=false:=by
   unfold mayC
   simp
   omega
  unfold zE
  rw[if_pos (.inl e)]
 have HT:Hid (((1<=win/\win<=32)/\(33<=phys/\phys<=96)/\(1<=wide/\wide<=4))->mayC win phys wide=true):=fun h=>by
  unfold mayC
  simp
  omega
 obtain⟨a,ha⟩:∃a,a=mayC win phys wide:=⟨_,rfl⟩
 rw[<-ha]at HM HT⊢
 clear ha
 go_enter func6,ntmps6
 go_upto_region 1 with fail
 refine Wi.qH (Φ:=fun W=>Code.wp _ _ _ _ W) ?_
 intro V e1 e2 hb hsz
 have HQ:Hid (V.heap[w.heap.size+1]?=some (.cells H 27 (0,0))):=e2
 have k0:V.cell? ⟨w.heap.size,0,none⟩=some (.int .i64 win):=by rw[cell_of_row _ _ _ _ _ _ e1];rfl
 have k1:V.cell? ⟨w.heap.size,1,none⟩=some (.int .i64 phys):=by rw[cell_of_row _ _ _ _ _ _ e1];rfl
 have k2:V.cell? ⟨w.heap.size,2,none⟩=some (.int .i64 wide):=by rw[cell_of_row _ _ _ _ _ _ e1];rfl
 have HB:Hid (Below w.heap.size w V):=hb
 have hqV:w.heap.size+1<V.heap.size:=by omega
 clear e1 e2 hb hsz
 obtain⟨h,hh⟩:∃h,h=w.heap.size+1:=⟨_,rfl⟩
 obtain⟨q,hq⟩:∃q,q=w.heap.size:=⟨_,rfl⟩
 rw[<-hh]at HQ hqV⊢
 rw[<-hq]at k0 k1 k2
 have hgoal:∀e:Int,e=zE a hm n sn cyc->∀V':World,Below w.heap.size w V'->(Ending.returned (.int .i64 e)=.returned (.int .i64 (zE a hm n sn cyc))/\Below w.heap.size w V'):=fun e he V' hV=>⟨by rw[he],hV⟩
 have HG:Hid _:=hgoal
 rw[<-hq]
 have HQW:Hid (q=w.heap.size):=hq
 clear hq hh hgoal
 by_cases a0:win<1
 ·have HW:Hid ((2:Int)=zE a hm n sn cyc):=HM.out (by omega)
  clear HM HT HQ CM
  go_wp2_with fail
  go_ret
  exact HG.out 2 HW.out _ HB.out
 ·skip
  by_cases a1:32<win
  ·have HW:Hid ((2:Int)=zE a hm n sn cyc):=HM.out (by omega)
   clear HM HT HQ CM
   go_wp2_with fail
   go_ret
   exact HG.out 2 HW.out _ HB.out
  ·skip
   by_cases a2:phys<33
   ·have HW:Hid ((2:Int)=zE a hm n sn cyc):=HM.out (by omega)
    clear HM HT HQ CM
    go_wp2_with fail
    go_ret
    exact HG.out 2 HW.out _ HB.out
   ·skip
    by_cases a3:96<phys
    ·have HW:Hid ((2:Int)=zE a hm n sn cyc):=HM.out (by omega)
     clear HM HT HQ CM
     go_wp2_with fail
     go_ret
     exact HG.out 2 HW.out _ HB.out
    ·skip
     by_cases a4:wide<1
     ·have HW:Hid ((2:Int)=zE a hm n sn cyc):=HM.out (by omega)
      clear HM HT HQ CM
      go_wp2_with fail
      go_ret
      exact HG.out 2 HW.out _ HB.out
     ·skip
      by_cases a5:4<wide
      ·have HW:Hid ((2:Int)=zE a hm n sn cyc):=HM.out (by omega)
       clear HM HT HQ CM
       go_wp2_with fail
       go_ret
       exact HG.out 2 HW.out _ HB.out
      ·skip
       have ea:a=true:=HT.out (by omega)
       subst ea
       clear HM HT
       go_wp2_with(refine xg (by rfl) 27 _ rfl _ rfl 27 _ (0,0) _ HQ.out underlying27 rfl HH.out ?_)
       refine(CM.out _).mono ?_
       rintro e V2 ⟨rfl,hk2⟩
       have B2:Hid (Below w.heap.size w V2):=HB.out.trans (hk2.mono HB.out.size)
       clear hk2 HB HQ CM k0 k1 k2 a0 a1 a2 a3 a4 a5
       cases hm with
       |false=>
        go_wp2_with fail
        go_ret
        exact HG.out 2 (by simp[zE]) _ B2.out
       |true=>
        by_cases h4:4096<n
        ·have h4':(4096:Int)<(n:Int):=by omega
         have HW:Hid ((2:Int)=zE true true n sn cyc):=by show _=_;unfold zE;rw[if_pos (.inr (.inr h4))]
         clear h4
         go_wp2_with fail
         go_ret
         exact HG.out 2 HW.out _ B2.out
        ·have h4':¬(4096:Int)<(n:Int):=by omega
         by_cases h3:3000<sn
         ·have h3':(3000:Int)<(sn:Int):=by omega
          have HW:Hid ((1:Int)=zE true true n sn cyc):=by show _=_;unfold zE;rw[if_neg (by simp;omega),if_pos h3]
          clear h3 h4
          go_wp2_with fail
          go_ret
          exact HG.out 1 HW.out _ B2.out
         ·have h3':¬(3000:Int)<(sn:Int):=by omega
          have HE:Hid (zE true true n sn cyc=if¬(0<=cyc/\cyc<=6000)then 3 else 0):=by show _=_;unfold zE;rw[if_neg (by simp;omega),if_neg h3]
          clear h3 h4
          by_cases c0:cyc<0
          ·have HW:Hid ((3:Int)=zE true true n sn cyc):=by show _=_;rw[HE.out,if_pos (by omega)]
           clear HE
           go_wp2_with fail
           go_ret
           exact HG.out 3 HW.out _ B2.out
          ·by_cases c1:6000<cyc
           ·have HW:Hid ((3:Int)=zE true true n sn cyc):=by show _=_;rw[HE.out,if_pos (by omega)]
            clear HE
            go_wp2_with fail
            go_ret
            exact HG.out 3 HW.out _ B2.out
           ·have HW:Hid ((0:Int)=zE true true n sn cyc):=by show _=_;rw[HE.out,if_neg (by omega)]
            clear HE
            go_wp2_with fail
            go_ret
            exact HG.out 0 HW.out _ B2.out
theorem zeR{Φ:World->Prop}{w:World}{A:Obj}(h:∀W:World,W.heap[w.heap.size]?=some A->Below w.heap.size w W->Φ W):Φ (w.alloc A):=h _ (heap_alloc_new _ _) ((Below.refl _ _).alloc (Nat.le_refl _) _)
end Go.Proofs.YtpiohehijkpghabGreatDoor.Co
namespace Go.Proofs.YtpiohehijkpghabGreatDoor.Co
open Go.ChangeShapes Go.WideShapes Go.ChangeAt Go.RowKit
open Hy
open Wi Od Re.Hy
open Gu.Hy (Tb tcs)
section
variable {H:Type} {enc:TypeId×Value->H} {w:World} {base:Nat} {sp:Nat->Bool} {held:Bool} {fuel:Nat} {d:DataW H} {p:List MemPlace}
theorem zaF{w:World}{a:Addr}{v:Value}(h:w.cell? a=some v):a.spot=none:=by
 unfold World.cell? at h
 split at h<;>simp_all
theorem kk3:prog.cellsOf 3=1:=by kernel_rfl
theorem zcQ{v:Array Value}(hsz:v.size=3)(h:DataW.trod enc prog w base sp held fuel 23 v.toList=some (d,p)):∃a b c:Int,v=#[.int .i64 a,.int .i64 b,.int .i64 c]:=by
 obtain⟨m0,d0,q0,e0⟩:=xO underlying23 h 0 _ rfl
 obtain⟨m1,d1,q1,e1⟩:=xO underlying23 h 1 _ rfl
 obtain⟨m2,d2,q2,e2⟩:=xO underlying23 h 2 _ rfl
 have e0':DataW.trod enc prog w base sp held m0 3 ((v.toList.drop 0).take 1)=some (d0,q0):=by rw[<-kk3];exact e0
 have e1':DataW.trod enc prog w base sp held m1 3 ((v.toList.drop 1).take 1)=some (d1,q1):=by rw[<-kk3];exact e1
 have e2':DataW.trod enc prog w base sp held m2 3 ((v.toList.drop 2).take 1)=some (d2,q2):=by rw[<-kk3];exact e2
 obtain⟨a,c0,_⟩:=xN underlying3 e0'
 obtain⟨b,c1,_⟩:=xN underlying3 e1'
 obtain⟨c,c2,_⟩:=xN underlying3 e2'
 refine⟨a,b,c,Array.ext_getElem? fun i=>?_⟩
 by_cases hi:i<3
 ·rcases(by omega:i=0\/i=1\/i=2)with rfl|rfl|rfl
  ·have:v[0]?=some (.int .i64 a):=by simpa using c0
   rw[this];rfl
  ·have:v[1]?=some (.int .i64 b):=by simpa using c1
   rw[this];rfl
  ·have:v[2]?=some (.int .i64 c):=by simpa using c2
   rw[this];rfl
 ·rw[Array.getElem?_eq_none (by omega),Array.getElem?_eq_none (by simp;omega)]
theorem zeS{a:Option Addr}{n c:Nat}(h:DataW.trod enc prog w base sp true fuel 28 [.slice a n c]=some (d,p)):
  (n=0\/∃xs ys,d=.slice xs ys/\n<=xs.length)/\∃f:Nat->Int,LC w a n c 1 (bcs f n)/\(∀i,i<n->0<=f i/\f i<=255):=by
 rcases open_ints underlying28 underlying5 (by kernel_rfl) h with⟨hcs,_⟩|⟨x,l,k,zs,hcs,_,hl,hm,hz,hd,hcell,hwz⟩
 ·simp at hcs
  obtain⟨rfl,rfl,rfl⟩:=hcs
  exact⟨.inl rfl,fun _=>0,xi _ _,fun i hi=>absurd hi (by omega)⟩
 ·simp at hcs
  obtain⟨rfl,rfl,rfl⟩:=hcs
  have hzl:n<=zs.length:=by rw[hz];split<;>omega
  refine⟨.inr ⟨_,_,congrArg Prod.fst hd,by simp[lits];omega⟩,fun i=>zs.getD i 0,⟨by simp[bcs],hl,hm,fun h=>(nomatch h),fun u hu=>?_,fun y hy h0=>?_⟩,fun i hi=>?_⟩
  ·simp[bcs]at hu
   obtain⟨i,_,rfl⟩:=hu
   rfl
  ·obtain rfl:=Option.some.inj hy
   have hsp:=zaF (hcell 0 (by omega))
   obtain⟨b,o,s⟩:=x
   cases s with
   |some q=>simp[Addr.add]at hsp
   |none=>
    refine⟨b,o,rfl,World.block_lt_of_cell? _ _ (show w.cell? ⟨b,o+0,none⟩=some _ by have:=hcell 0 (by omega);rwa [Addr.add_lit]at this),fun j u hj=>?_⟩
    have hjn:j<n:=by have:=(List.getElem?_eq_some_iff.1 hj).1;simpa[bcs]using this
    rw[zdH hjn]at hj
    have:=hcell j (by omega)
    rw[Addr.add_lit]at this
    rw[this,<-hj]
  ·have hw:(Lit.int .u8 (zs.getD i 0)).wf=true:=by
    rw[List.getD_eq_getElem?_getD,List.getElem?_eq_getElem (by omega)]
    exact hwz _ (List.getElem_mem _)
   have e1:IntKind.u8.min=0:=rfl
   have e2:IntKind.u8.max=255:=rfl
   simp only[Lit.wf,Bool.and_eq_true,decide_eq_true_eq]at hw
   show 0<=zs.getD i 0/\zs.getD i 0<=255
   omega
theorem ziH{a:Option Addr}{n c:Nat}(h:DataW.trod enc prog w base sp true fuel 29 [.slice a n c]=some (d,p)):
  (n=0\/∃xs ys,d=.slice xs ys/\n<=xs.length)/\∃l:List Int,l.length=n/\LC w a n c 1 (ics l):=by
 rcases open_ints underlying29 underlying3 (by kernel_rfl) h with⟨hcs,_⟩|⟨x,l,k,zs,hcs,_,hl,hm,hz,hd,hcell,hwz⟩
 ·simp at hcs
  obtain⟨rfl,rfl,rfl⟩:=hcs
  exact⟨.inl rfl,[],rfl,xi _ _⟩
 ·simp at hcs
  obtain⟨rfl,rfl,rfl⟩:=hcs
  have hzl:n<=zs.length:=by rw[hz];split<;>omega
  have hlen:(zs.take n).length=n:=by simp;omega
  refine⟨.inr ⟨_,_,congrArg Prod.fst hd,by simp[lits];omega⟩,zs.take n,hlen,⟨by rw[qM,hlen],hl,hm,fun h=>(nomatch h),fun u hu=>?_,fun y hy h0=>?_⟩⟩
  ·simp only[ics,List.mem_map]at hu
   obtain⟨i,_,rfl⟩:=hu
   rfl
  ·obtain rfl:=Option.some.inj hy
   have hsp:=zaF (hcell 0 (by omega))
   obtain⟨b,o,s⟩:=x
   cases s with
   |some q=>simp[Addr.add]at hsp
   |none=>
    refine⟨b,o,rfl,World.block_lt_of_cell? _ _ (show w.cell? ⟨b,o+0,none⟩=some _ by have:=hcell 0 (by omega);rwa [Addr.add_lit]at this),fun j u hj=>?_⟩
    have hjn:j<n:=by have:=(List.getElem?_eq_some_iff.1 hj).1;rw[qM,hlen]at this;omega
    have:=hcell j (by omega)
    rw[Addr.add_lit]at this
    rw[this,<-hj]
    simp[ics,hjn,List.getD,List.getElem?_eq_getElem (show j<zs.length by omega)]
end
end Go.Proofs.YtpiohehijkpghabGreatDoor.Co
namespace Go.Proofs.YtpiohehijkpghabGreatDoor.Co
open Go.RowKit
open Hy
open Wi Od Re.Hy
open Gu.Hy (Tb tcs)
theorem zm2{w:World}{r:Cr}{L:Sls}(hU:Us w 64 11 L.c r.coms.length (flat cml r.coms))(hM:∃p c,L.m=.slice p r.n c):(rowOf (shw r L) 40).all (·.oneCell')=true:=je _ _ fun i hi=>by
 show(kat r L (3+i)).oneCell'=true
 by_cases h0:i=0
 ·subst h0
  exact zk1 hU
 ·by_cases h1:i<36
  ·rw[show 3+i=4+(i-1) by omega,zbs _ L (i-1) (by omega)]
   exact zbx _ _ _ _ _
  ·rcases(by omega:i=36\/i=37\/i=38\/i=39)with rfl|rfl|rfl|rfl
   ·obtain⟨p',c',e⟩:=hM
    show L.m.oneCell'=true
    rw[e];rfl
   ·rfl
   ·rfl
   ·rfl
theorem zdS{win phys wide:Int}{hm:Bool}{n sn:Nat}{cyc:Int}(h:zE (mayC win phys wide) hm n sn cyc=0):(0<=cyc/\cyc<=6000)/\(1<=win/\win<=32)/\(33<=phys/\phys<=96)/\(1<=wide/\wide<=4):=by
 unfold zE at h
 have hw1:mayC win phys wide=true:=by
  cases hx:mayC win phys wide with
  |true=>rfl
  |false=>rw[if_pos (.inl hx)]at h;omega
 refine⟨Classical.byContradiction fun hc=>?_,?_⟩
 ·split at h
  ·omega
  ·split at h
   ·omega
   ·first|omega|(rw[if_pos hc]at h;omega)
 ·unfold mayC at hw1
  simp at hw1
  omega
end Go.Proofs.YtpiohehijkpghabGreatDoor.Co
