/- A core that stops, that names: the program. -/
import Derived.Test.YtpiohehijkpghacGreatDoorD19
open Go renaming cell_of_row->WZ,frozen_of_row->Ai
open Go.World renaming cell?_of_block->Ah
open List renaming getD_eq_getElem?_getD->Ad,getElem?_eq_getElem->Ae,length_append->Aj,length_cons->Ak
open Nat renaming le_refl->Aa,le_trans->Af,lt_of_lt_of_le->Ag,add_comm->WY
open Option.some renaming inj->Ab
set_option maxHeartbeats 1000000
set_option maxRecDepth 20000
set_option linter.unusedSimpArgs false
set_option linter.unusedVariables false
open Go.Proofs.Tryz
namespace Go.Proofs.YtpiohehijkpghacGreatDoor.Re
open Go.RowKit Go.Maps
open Re.Hy
theorem zhx(T:Array Value)(P:Int)(r f:Nat->Int)(a:Option Addr)(n c:Nat)(hT:Hid (T=mcs P r (.slice a n c)))(hm:Hid (MayBe P n r f))
  (h0:T[0]?=some (.int .i64 P)) (hF:T[33]?=some (.slice a n c)) (hR:Hid (Rg r)) (k:Nat) (k0:1<=k) (k1:k<32) (x:Int) (hx:Hid (Idle P n r f x)) (w:World) (hL:Hid (Lie w a n c f)):
  Calls prog 162 #[.agg T,.int .i64 k,.int .i64 x] w fun e w'=>(∃a' c',e=.returned (.tuple #[.agg (mcs P (up r k x) (.slice a' (n+1) c')),.bool true])/\Lie w' a' (n+1) c' (hd (r k) f)/\Far w.heap.size a')/\Below w.heap.size w w':=by
 have hn64:=hm.out.few.2
 have C1:=fun w=>zaR T P r f a n c true hT ⟨fun _=>hm.out,fun _=>rfl⟩ h0 hF hR (by omega) w
 have C3:=fun w=>zbJ T P r f a n c x true hT ⟨fun _=>hx.out,fun _=>rfl⟩ h0 hF hR hn64 hm.out.high w
 have HI:Hid ((prog.info? 59).map (·.size)=some T.size):=qD hT.out
 have C2:=zan (k:Int)
 rw[decide_eq_true (⟨by omega,by omega⟩:(1:Int)<=k/\(k:Int)<32)]at C2
 have hcR:T[1+k]?=some (.int .i64 (r k)):=by rw[hT.out];exact ze0 _ _ _ _ k1
 go_enter func162,ntmps162
 go_upto_region 1 with fail
 refine zaS (Φ:=fun W=>Code.wp _ _ _ _ W) ?_
 intro W0 HR' HZ' HB' hs0
 have HR0:Hid (W0.heap[w.heap.size]?=some (.cells T 59 (0,0))):=HR'
 have HB0:Hid (Below w.heap.size w W0):=HB'
 obtain⟨Z,hZ,HZ0⟩:∃Z:Array Value,Hid (Z.size=34)/\Hid (W0.heap[w.heap.size+1]?=some (.cells Z 59 (0,0))):=⟨zm,zaT,HZ'⟩
 clear HR' HZ' HB'
 go_wp2_with(refine zo (by rfl) 59 _ rfl _ rfl 59 _ (0,0) _ HR0.out underlying59 rfl HI.out ?_)
 refine(C1 _ (hL.out.below (Aa _) HB0.out)).mono ?_
 rintro e W1 ⟨rfl,hk⟩
 have HR1:Hid (W1.heap[w.heap.size]?=some (.cells T 59 (0,0))):=(hk.block _ (zk HR0.out)).trans HR0.out
 have HZ1:Hid (W1.heap[w.heap.size+1]?=some (.cells Z 59 (0,0))):=(hk.block _ (zk HZ0.out)).trans HZ0.out
 have HB1:Hid (Below w.heap.size w W1):=HB0.out.trans (hk.mono HB0.out.size)
 have hs1:w.heap.size+1<W1.heap.size:=zk HZ1.out
 clear hk HR0 HZ0 HB0 hs0
 go_wp2_with fail
 refine(C2 _).mono ?_
 rintro e w' ⟨rfl,rfl⟩
 obtain⟨W1,hW1⟩:∃W1,W1=w':=⟨_,rfl⟩
 rw[<-hW1]at HR1 HZ1 HB1 hs1⊢
 clear hW1
 go_wp2_with(refine zo (by rfl) 59 _ rfl _ rfl 59 _ (0,0) _ HR1.out underlying59 rfl HI.out ?_)
 refine(C3 _ (hL.out.below (Aa _) HB1.out)).mono ?_
 rintro e W2 ⟨rfl,hk⟩
 have HR2:Hid (W2.heap[w.heap.size]?=some (.cells T 59 (0,0))):=(hk.block _ (zk HR1.out)).trans HR1.out
 have HZ2:Hid (W2.heap[w.heap.size+1]?=some (.cells Z 59 (0,0))):=(hk.block _ (zk HZ1.out)).trans HZ1.out
 have HB2:Hid (Below w.heap.size w W2):=HB1.out.trans (hk.mono HB1.out.size)
 have hs2:w.heap.size+1<W2.heap.size:=zk HZ2.out
 clear hk HR1 HZ1 HB1 hs1
 have c33:W2.cell? ⟨w.heap.size,33,none⟩=some (.slice a n c):=(WZ _ w.heap.size _ _ _ _ HR2.out).trans hF
 have cR:W2.cell? ⟨w.heap.size,1+k,none⟩=some (.int .i64 (r k)):=(WZ _ w.heap.size _ _ _ _ HR2.out).trans hcR
 have C4:∀W3:World,W3.heap[W2.heap.size]?=some (.cells #[.int .i64 (r k)] 3 (0,0))->W3.heap[W2.heap.size+1]?=some (.cells #[.slice (some ⟨W2.heap.size,0,none⟩) 1 1,.slice a n c] 29 (0,0))->Below W2.heap.size W2 W3->W2.heap.size+2<=W3.heap.size->
   Calls prog 115 #[.slice (some ⟨W2.heap.size+1,0,none⟩) 2 2] W3 fun e W4=>∃a' c',e=.returned (.slice a' (1+n) c')/\Hid (Lie W4 a' (1+n) c' (cat (fun _=>r k) 1 f))/\Hid (Far (w.heap.size+2) a')/\Hid (W4.heap[w.heap.size]?=some (.cells T 59 (0,0)))/\Hid (W4.heap[w.heap.size+1]?=some (.cells Z 59 (0,0)))/\Hid (Below w.heap.size w W4)
    /\W4.cell? ⟨w.heap.size,33,none⟩=some (.slice a n c)/\W4.cell? ⟨w.heap.size,1+k,none⟩=some (.int .i64 (r k))/\(∀j,W4.frozen? ⟨w.heap.size,j,none⟩=false):=by
  intro W3 ha hb3 hk hs3
  have l1:Hid (Lie W3 a n c f):=hL.out.below (Aa _) (HB2.out.trans (hk.mono HB2.out.size))
  have l2:Hid (Lie W3 (some ⟨W2.heap.size,0,none⟩) 1 1 (fun _=>r k)):=by
   refine⟨Aa _,by unfold maxLen;omega,fun h=>(nomatch h),fun i hi=>hR.out k k1,fun y hy _=>⟨W2.heap.size,0,(Ab hy).symm,fun i hi=>?_⟩⟩
   obtain rfl:i=0:=by omega
   rw[WZ _ _ _ _ _ _ ha]
   rfl
  have e0:W3.cell? ⟨W2.heap.size+1,0,none⟩=some (.slice (some ⟨W2.heap.size,0,none⟩) 1 1):=by rw[WZ _ _ _ _ _ _ hb3];rfl
  have e1:W3.cell? ⟨W2.heap.size+1,1,none⟩=some (.slice a n c):=by rw[WZ _ _ _ _ _ _ hb3];rfl
  refine(vl (W2.heap.size+1) (some ⟨W2.heap.size,0,none⟩) a 1 1 n c (fun _=>r k) f (by omega) (by omega) W3 (by omega) e0 e1 l2 l1).mono ?_
  rintro e W4 ⟨⟨a',c',rfl,hl,hfar⟩,hk4⟩
  have r4:W4.heap[w.heap.size]?=some (.cells T 59 (0,0)):=(hk4.block _ (by omega)).trans ((hk.block _ (by omega)).trans HR2.out)
  have z4:W4.heap[w.heap.size+1]?=some (.cells Z 59 (0,0)):=(hk4.block _ (by omega)).trans ((hk.block _ (by omega)).trans HZ2.out)
  exact⟨a',c',rfl,hl,hfar.mono (by omega),r4,z4,HB2.out.trans ((hk.mono HB2.out.size).trans (hk4.mono (by omega))),(WZ _ w.heap.size _ _ _ _ r4).trans hF,(WZ _ w.heap.size _ _ _ _ r4).trans hcR,fun j=>Ai _ _ j _ _ r4⟩
 have HC4:=Hid.mk' C4
 have hs2':w.heap.size<W2.heap.size:=by omega
 have hs2b:(W2.cell? ⟨w.heap.size,33,none⟩).isSome=true:=by rw[c33];rfl
 have hs2c:(W2.cell? ⟨w.heap.size,1+k,none⟩).isSome=true:=by rw[cR];rfl
 clear C4 C1 C2 C3
 go_wp2_with fail
 go_region_with (go_at_call 115;refine(HC4.out _ (znd _ _ _) (zne _ _ _) (znf _ _ _) (zng _ _ _)).mono ?_;rintro e W4 ⟨a',c',rfl,HL4,HA4,HR4,HZ4,HB4,c33,cR,hf⟩)
 all_goals
  have hs4:w.heap.size+1<W4.heap.size:=zk HZ4.out
  obtain⟨M,hM⟩:∃M,Hid (M=mcs P (up r k x) (.slice a' (1+n) c')):=⟨_,rfl⟩
  have eM:(T.setIfInBounds 33 (.slice a' (1+n) c')).setIfInBounds (1+k) (.int .i64 x)=M:=by rw[hM.out,hT.out,zgx,ze1 _ _ _ _ _ k1]
  have HR5:Hid (((W4.setCell ⟨w.heap.size,33,none⟩ (.slice a' (1+n) c')).setCell ⟨w.heap.size,1+k,none⟩ (.int .i64 x)).heap[w.heap.size]?=some (.cells M 59 (0,0))):=by rw[<-eM];exact(zy (zy HR4.out))
  have HZ5:Hid (((W4.setCell ⟨w.heap.size,33,none⟩ (.slice a' (1+n) c')).setCell ⟨w.heap.size,1+k,none⟩ (.int .i64 x)).heap[w.heap.size+1]?=some (.cells Z 59 (0,0))):=(zh (zh HZ4.out (by omega)) (by omega))
  have HB5:Hid (Below w.heap.size w ((W4.setCell ⟨w.heap.size,33,none⟩ (.slice a' (1+n) c')).setCell ⟨w.heap.size,1+k,none⟩ (.int .i64 x))):=((HB4.out.setCell (Aa _) _).setCell (Aa _) _)
  have MI:Hid ((prog.info? 59).map (·.size)=some M.size):=qD hM.out
  have MO:Hid (M.all (·.oneCell')=true):=by show _=_;rw[hM.out];exact xp _ _ _ _ _
  have MZ:Hid (Z.size=M.size):=by show _=_;rw[hM.out,hZ.out];rfl
  clear eM HR4 HZ4 HB4
  go_wp2_with(first|(refine zo (by rfl) 59 _ rfl _ rfl 59 _ (0,0) _ HR5.out underlying59 rfl MI.out ?_)|(refine wpList_store_row rfl 59 _ _ rfl _ _ rfl rfl 59 _ HZ5.out MI.out MZ.out MO.out ?_))
  refine bodyPost_ret (v:=.tuple #[.agg M,.bool true]) ?_ rfl ⟨⟨a',c',by rw[hM.out];rw[WY 1 n],?_,HA4.out.mono (by omega)⟩,?_⟩
  ·have L2:=run_loadVar_row (P:=prog) _ _ 59 59 M (0,0) _ (setRow_heap _ _ _ _ _ _ HZ5.out) underlying59 rfl MI.out
   simp[results,results162,asAddr,L2]
  ·rw[WY n 1]
   refine Lie.congr (f:=cat (fun _=>r k) 1 f) (HL4.out.moved fun y hy=>?_) (fun i _=>by unfold cat hd;by_cases h:i=0<;>simp[h])
   have:=HA4.out y hy
   rw[setRow_other _ _ _ _ (by omega)]
   exact(zA _ (by omega)).trans (zA _ (by omega))
  ·exact zc HB5.out (by omega) _
end Go.Proofs.YtpiohehijkpghacGreatDoor.Re
namespace Go.Proofs.YtpiohehijkpghacGreatDoor.Co
open Go.RowKit
open Hy
open Wi Od Re.Hy
open Gu.Hy (Tb tcs)
structure Toq(b q:Nat)(w:World)(L:Sls)(w':World)(L':Sls):Prop where
 os:w'.os=w.os
 tape:w'.tape=w.tape
 output:w'.output=w.output
 size:w.heap.size<=w'.heap.size
 block:∀g,g<w.heap.size->¬own b L g->g≠q->w'.heap[g]?=w.heap[g]?
 fresh:∀g,own b L' g->own b L g\/w.heap.size<=g
theorem To.q{b q:Nat}{w w':World}{L L':Sls}(h:To b w L w' L'):Toq b q w L w' L':=⟨h.os,h.tape,h.output,h.size,fun g hg hn _=>h.block g hg hn,h.fresh⟩
theorem Toq.trans{b q:Nat}{w w1 w2:World}{L L1 L2:Sls}(h:Toq b q w L w1 L1)(k:Toq b q w1 L1 w2 L2):Toq b q w L w2 L2:=by
 refine⟨k.os.trans h.os,k.tape.trans h.tape,k.output.trans h.output,Af h.size k.size,fun g hg hn hq=>?_,fun g hg=>?_⟩
 ·rw[k.block g (Ag hg h.size) (fun ho=>?_) hq,h.block g hg hn hq]
  rcases h.fresh g ho with h'|h'
  ·exact hn h'
  ·omega
 ·rcases k.fresh g hg with h'|h'
  ·exact h.fresh g h'
  ·exact .inr (Af h.size h')
theorem Toq.to{b q:Nat}{w w1 w2:World}{L L1 L2:Sls}(h:To b w L w1 L1)(hq:w.heap.size<=q)(k:Toq b q w1 L1 w2 L2):To b w L w2 L2:=by
 refine⟨k.os.trans h.os,k.tape.trans h.tape,k.output.trans h.output,Af h.size k.size,fun g hg hn=>?_,fun g hg=>?_⟩
 ·rw[k.block g (Ag hg h.size) (fun ho=>?_) (by omega),h.block g hg hn]
  rcases h.fresh g ho with h'|h'
  ·exact hn h'
  ·omega
 ·rcases k.fresh g hg with h'|h'
  ·exact h.fresh g h'
  ·exact .inr (Af h.size h')
theorem zax{b q:Nat}{w w':World}{L:Sls}(h:w.grownBy w' (some q)):Toq b q w L w' L:=⟨h.os,h.tape,h.output,h.size,fun g hg _ hq=>h.block g hg (fun e=>hq (Ab e)),fun _ h=>.inl h⟩
theorem zZ(w:World)(q i:Nat)(v:Value):w.grownBy (w.setCell ⟨q,i,none⟩ v) (some q):=zD w q i [v]
structure Apt(b q:Nat)(s:Cr)(L:Sls):Prop where
 o:¬own b L q
 m:∀g,L.m.ownBlock=some g->0<s.n->g≠q
 f:∀g,L.f.ownBlock=some g->0<s.free.length->g≠q
 sl:∀g,L.s.ownBlock=some g->0<s.slots.length->g≠q
 r:∀g,L.r.ownBlock=some g->0<s.scr.length->g≠q
 g1:q≠0
 g2:q≠2
theorem St.apt{N:Nat}{w:World}{b:Nat}{s:Cr}{L:Sls}(S:St N w b s L){q:Nat}(hq:w.heap.size<=q):Apt b q s L:=by
 obtain⟨b1,b2,b3,b4⟩:=S.its.blk
 have h1:=S.its.tb.size
 have h2:=S.its.tb2.size
 exact⟨fun h=>by have:=qN S h;omega,fun g h h0=>by have:=b1 g h h0;omega,fun g h h0=>by have:=b2 g h h0;omega,fun g h h0=>by have:=b3 g h h0;omega,fun g h h0=>by have:=b4 g h h0;omega,by omega,by omega⟩
theorem St.other{N:Nat}{w w':World}{b q:Nat}{s:Cr}{L:Sls}(S:St N w b s L)(h:w.grownBy w' (some q))(hA:Apt b q s L):St N w' b s L:=by
 have hq:=hA.o
 have g1:=hA.g1
 have g2:=hA.g2
 have mv:∀g,g<w.heap.size->g≠q->w'.heap[g]?=w.heap[g]?:=fun g hg hn=>h.block g hg (fun e=>hn (Ab e))
 have nq:∀g,own b L g->g≠q:=fun g hg e=>hq (e▸hg)
 refine⟨(mv b S.lt (nq b (.inl rfl))).trans S.row,?_⟩
 have I:=S.its
 obtain⟨pm,cm,em,hm'⟩:=I.im
 obtain⟨pf,cf,ef,hf'⟩:=I.ifr
 obtain⟨ps,cs,es,hs'⟩:=I.isl
 obtain⟨pr,cr,er,hr'⟩:=I.ir
 have lt:∀{g:Nat} {j:Nat} {v:Value},w.cell? ⟨g,j,none⟩=some v->g<w.heap.size:=fun hv=>World.block_lt_of_cell? _ _ hv
 have nT:0<w.heap.size:=I.tb.size
 have nT2:2<w.heap.size:=I.tb2.size
 refine⟨I.ic.move fun g hg=>mv g (I.lt (.inl hg)) (nq g (.inr (.inl hg))),I.iu.move fun g hg=>mv g (I.lt (.inr (.inl hg))) (nq g (.inr (.inr (.inl hg)))),I.ia.move fun g hg=>mv g (I.lt (.inr (.inr hg))) (nq g (.inr (.inr (.inr hg)))),
  ⟨pm,cm,em,xz hm' fun h0 x hx=>?_⟩,⟨pf,cf,ef,zbb hf' fun h0 x hx=>?_⟩,⟨ps,cs,es,qH hs' h.size fun h0 x hx=>?_⟩,⟨pr,cr,er,qH hr' h.size fun h0 x hx=>?_⟩,
  I.sm,I.sf,I.ss,I.sr,I.base,fun i hi=>(Ah (w:=w) (a:=⟨0,i,none⟩) (mv _ nT (fun e=>g1 e.symm))).trans (I.tb i hi),fun i hi=>(Ah (w:=w) (a:=⟨2,i,none⟩) (mv _ nT2 (fun e=>g2 e.symm))).trans (I.tb2 i hi),I.g1,I.g2,Af I.nN h.size⟩
 ·obtain⟨g,o,e,hl⟩:=hm'.hm h0
  rw[hx]at e
  cases e
  exact mv g (lt (hl 0 h0)) (hA.m _ (by rw[em,hx];rfl) h0)
 ·obtain⟨g,o,e,hl⟩:=hf'.ad x hx h0
  subst e
  exact mv g (lt (hl 0 h0)) (hA.f _ (by rw[ef,hx];rfl) h0)
 ·obtain⟨g,o,e,hlt,_⟩:=hs'.ad x hx h0
  subst e
  exact mv g hlt (hA.sl _ (by rw[es,hx];rfl) h0)
 ·obtain⟨g,o,e,hlt,_⟩:=hr'.ad x hx h0
  subst e
  exact mv g hlt (hA.r _ (by rw[er,hx];rfl) h0)
theorem St.setSlots{N:Nat}{w:World}{b:Nat}{s:Cr}{L:Sls}(S:St N w b s L){l:List Sl}{a:Option Addr}{c:Nat}(hl:LC w a l.length c 2 (scs l))(hs:∀x,a=some x->¬own b L x.block):
  St N (w.setCell ⟨b,333,none⟩ (.slice a l.length c)) b {s with slots:=l} {L with s:=.slice a l.length c}/\To b w L (w.setCell ⟨b,333,none⟩ (.slice a l.length c)) {L with s:=.slice a l.length c}:=by
 refine⟨St.cell S.row (S.its.setS (l:=l) ⟨_,_,rfl,hl⟩ (fun g hg h0=>?_)) 333 _ (fun j hj=>znA s L _ j hj),jN w 333 _ (fun g hg=>.inl hg)⟩
 cases a with
 |none=>cases hg
 |some x=>exact(Ab hg)▸hs x rfl
theorem St.setNames{N:Nat}{w:World}{b:Nat}{s:Cr}{L:Sls}(S:St N w b s L){l:List Int}{a:Option Addr}{c:Nat}(r:Nat->Int)(hl:Re.Lie w a l.length c (fun i=>l.getD i 0))(hs:∀x,a=some x->¬own b L x.block):
  St N (w.setCells b 107 (rowOf (mat s.phys r (.slice a l.length c)) 34).toList) b {s with regs:=r,free:=l} {L with f:=.slice a l.length c}/\To b w L (w.setCells b 107 (rowOf (mat s.phys r (.slice a l.length c)) 34).toList) {L with f:=.slice a l.length c}:=by
 refine⟨St.cells S.row (S.its.setF r (l:=l) ⟨_,_,rfl,hl⟩ (fun g hg h0=>?_)) 107 (fun j hj=>zg9 s L r _ l j hj),zdb w 107 _ (fun g hg=>.inl hg)⟩
 cases a with
 |none=>cases hg
 |some x=>exact(Ab hg)▸hs x rfl
theorem Its.same{N:Nat}{w:World}{b:Nat}{s s':Cr}{L:Sls}(h:Its N w b s L)(h1:s'.coms=s.coms)(h2:s'.under=s.under)(h3:s'.asked=s.asked)(h4:s'.n=s.n)(h5:s'.f=s.f)(h6:s'.free=s.free)(h7:s'.slots=s.slots)(h8:s'.scr=s.scr):Its N w b s' L:=by
 refine⟨by rw[h1];exact h.ic,by rw[h2];exact h.iu,by rw[h3];exact h.ia,by rw[h4,h5];exact h.im,by rw[h6];exact h.ifr,by rw[h7];exact h.isl,by rw[h8];exact h.ir,by rw[h4];exact h.sm,by rw[h6];exact h.sf,by rw[h7];exact h.ss,by rw[h8];exact h.sr,h.base,h.tb,h.tb2,h.g1,h.g2,h.nN⟩
theorem St.setTb{N:Nat}{w:World}{b:Nat}{s:Cr}{L:Sls}(S:St N w b s L)(t:Tb):St N (w.setCells b 43 (rowOf (tat t) 64).toList) b {s with tb:=t} L/\To b w L (w.setCells b 43 (rowOf (tat t) 64).toList) L:=
 ⟨St.cells (s:={s with tb:=t}) S.row (S.its.same rfl rfl rfl rfl rfl rfl rfl rfl) 43 (fun j hj=>znG s L t j hj),zdb w 43 _ (fun g hg=>.inl hg)⟩
theorem St.setHart{N:Nat}{w:World}{b:Nat}{s:Cr}{L:Sls}(S:St N w b s L)(R:Nat->Int)(pc st ca:Int):St N (w.setCells b 4 (rowOf (hat R pc st ca) 35).toList) b {s with R:=R,pc:=pc,st:=st,ca:=ca} L/\To b w L (w.setCells b 4 (rowOf (hat R pc st ca) 35).toList) L:=
 ⟨St.cells (s:={s with R:=R,pc:=pc,st:=st,ca:=ca}) S.row (S.its.same rfl rfl rfl rfl rfl rfl rfl rfl) 4 (fun j hj=>zjl s L R pc st ca j hj),zdb w 4 _ (fun g hg=>.inl hg)⟩
theorem St.setMem{N:Nat}{w:World}{b:Nat}{s:Cr}{L:Sls}(S:St N w b s L){f:Nat->Int}{a:Option Addr}{c:Nat}(hl:Bys w a s.n c f)(hs:∀x,a=some x->¬own b L x.block):
  St N (w.setCell ⟨b,39,none⟩ (.slice a s.n c)) b {s with f:=f} {L with m:=.slice a s.n c}/\To b w L (w.setCell ⟨b,39,none⟩ (.slice a s.n c)) {L with m:=.slice a s.n c}:=by
 refine⟨St.cell S.row (S.its.setM (f:=f) ⟨_,_,rfl,hl⟩ (fun g hg h0=>?_)) 39 _ (fun j hj=>zo9 s L _ j hj),jN w 39 _ (fun g hg=>.inl hg)⟩
 cases a with
 |none=>cases hg
 |some x=>exact(Ab hg)▸hs x rfl
theorem St.setCyc{N:Nat}{w:World}{b:Nat}{s:Cr}{L:Sls}(S:St N w b s L)(x:Int):St N (w.setCell ⟨b,40,none⟩ (.int .i64 x)) b {s with cyc:=x} L/\To b w L (w.setCell ⟨b,40,none⟩ (.int .i64 x)) L:=
 ⟨St.cell (s:={s with cyc:=x}) S.row (S.its.same rfl rfl rfl rfl rfl rfl rfl rfl) 40 _ (fun j hj=>zlx s L x j hj),jN w 40 _ (fun g hg=>.inl hg)⟩
theorem St.setTak{N:Nat}{w:World}{b:Nat}{s:Cr}{L:Sls}(S:St N w b s L)(x:Int):St N (w.setCell ⟨b,41,none⟩ (.int .i64 x)) b {s with tak:=x} L/\To b w L (w.setCell ⟨b,41,none⟩ (.int .i64 x)) L:=
 ⟨St.cell (s:={s with tak:=x}) S.row (S.its.same rfl rfl rfl rfl rfl rfl rfl rfl) 41 _ (fun j hj=>zly s L x j hj),jN w 41 _ (fun g hg=>.inl hg)⟩
theorem St.setBck{N:Nat}{w:World}{b:Nat}{s:Cr}{L:Sls}(S:St N w b s L)(x:Int):St N (w.setCell ⟨b,42,none⟩ (.int .i64 x)) b {s with bck:=x} L/\To b w L (w.setCell ⟨b,42,none⟩ (.int .i64 x)) L:=
 ⟨St.cell (s:={s with bck:=x}) S.row (S.its.same rfl rfl rfl rfl rfl rfl rfl rfl) 42 _ (fun j hj=>zlz s L x j hj),jN w 42 _ (fun g hg=>.inl hg)⟩
theorem St.setFro{N:Nat}{w:World}{b:Nat}{s:Cr}{L:Sls}(S:St N w b s L)(x:Int):St N (w.setCell ⟨b,337,none⟩ (.int .u32 x)) b {s with fro:=x} L/\To b w L (w.setCell ⟨b,337,none⟩ (.int .u32 x)) L:=
 ⟨St.cell (s:={s with fro:=x}) S.row (S.its.same rfl rfl rfl rfl rfl rfl rfl rfl) 337 _ (fun j hj=>zlA s L x j hj),jN w 337 _ (fun g hg=>.inl hg)⟩
theorem St.setOpn{N:Nat}{w:World}{b:Nat}{s:Cr}{L:Sls}(S:St N w b s L)(x:Bool):St N (w.setCell ⟨b,338,none⟩ (.bool x)) b {s with opn:=x} L/\To b w L (w.setCell ⟨b,338,none⟩ (.bool x)) L:=
 ⟨St.cell (s:={s with opn:=x}) S.row (S.its.same rfl rfl rfl rfl rfl rfl rfl rfl) 338 _ (fun j hj=>zlB s L x j hj),jN w 338 _ (fun g hg=>.inl hg)⟩
theorem St.setWd{N:Nat}{w:World}{b:Nat}{s:Cr}{L:Sls}(S:St N w b s L)(x:Nat)(hx:x<96)(v:Int):St N (w.setCell ⟨b,141+x,none⟩ (.int .u32 v)) b {s with wd:=upI s.wd x v} L/\To b w L (w.setCell ⟨b,141+x,none⟩ (.int .u32 v)) L:=
 ⟨St.cell (s:={s with wd:=upI s.wd x v}) S.row (S.its.same rfl rfl rfl rfl rfl rfl rfl rfl) (141+x) _ (fun j hj=>znE s L x v (by omega) (by omega) j hj),jN w (141+x) _ (fun g hg=>.inl hg)⟩
theorem St.setTh{N:Nat}{w:World}{b:Nat}{s:Cr}{L:Sls}(S:St N w b s L)(x:Nat)(hx:x<96)(v:Bool):St N (w.setCell ⟨b,237+x,none⟩ (.bool v)) b {s with th:=upB s.th x v} L/\To b w L (w.setCell ⟨b,237+x,none⟩ (.bool v)) L:=
 ⟨St.cell (s:={s with th:=upB s.th x v}) S.row (S.its.same rfl rfl rfl rfl rfl rfl rfl rfl) (237+x) _ (fun j hj=>znF s L x v (by omega) (by omega) j hj),jN w (237+x) _ (fun g hg=>.inl hg)⟩
structure Nms(s:Cr):Prop where
 low:33<=s.phys
 high:s.phys<=96
 dis:Dis s.phys s.regs s.free
theorem zbf{l:List Int}{i:Nat}(h:i<l.length):l.getD i 0∈l:=by
 rw[Ad,Ae h]
 exact List.getElem_mem h
theorem Nms.may{s:Cr}(h:Nms s):Re.Hy.MayBe s.phys s.free.length s.regs (fun i=>s.free.getD i 0):=by
 refine .mk' h.low h.high h.dis.rm (fun i hi=>h.dis.rf _ (zbf hi)) h.dis.inj (fun i j hi hj e=>?_) (fun i j hi hj e=>h.dis.apart i hi (by rw[e];exact zbf hj))
 simp only[Ad,Ae hi,Ae hj,Option.getD_some]at e
 exact(List.getElem_inj h.dis.nod).1 e
theorem Nms.idle{s:Cr}(h:Nms s){x:Int}(h0:0<=x)(h1:x<s.phys)(hf:x∉s.free)(hr:∀r,r<32->s.regs r≠x):Re.Hy.Idle s.phys s.free.length s.regs (fun i=>s.free.getD i 0) x:=
 .mk' h0 h1 hr (fun i hi e=>hf (by rw[<-e];exact zbf hi))
theorem Nms.rg{s:Cr}(h:Nms s):Re.Rg s.regs:=fun k hk=>by
 have:=h.dis.rm k hk
 have:=h.high
 exact WalkArith.wf_i64 (by omega)
theorem keyed{X G:Prop}(h:X->G)(x:X):G:=h x
structure DonAt(l:List Sl)(q:Int)(m:Nat):Prop where
 first:First (waits q) l m
 lt:m<l.length
 is:donS l q=l.set m (q,true)
theorem zn6{N:Nat}{w:World}{b:Nat}{s:Cr}{L:Sls}(S:St N w b s L)(q:Int)(m:Nat)(hd:DonAt s.slots q m)(hn:s.slots.length<=100000)(W:World)(hW:Below w.heap.size w W):
  Calls prog 124 #[L.s,.int .i64 q] W fun e w'=>(∃a c,e=.returned (.tuple #[.slice a (donS s.slots q).length c,.bool true])/\LC w' a (donS s.slots q).length c 2 (scs (donS s.slots q))/\FarC W.heap.size a)/\Below W.heap.size W w':=by
 obtain⟨a,c,e,hl⟩:=S.its.isl
 rw[e,hd.is]
 exact zgI a s.slots.length c q s.slots m hd.first hd.lt (by omega) W (hl.below (Aa _) hW)
theorem zpr{N:Nat}{w:World}{b:Nat}{s:Cr}{L:Sls}(S:St N w b s L)(hw:(s.slots.length:Int)<s.win)(hm:First (above s.tak) s.slots s.slots.length)(hn:s.slots.length<=100000)(W:World)(hW:Below w.heap.size w W):
  Calls prog 91 #[L.s,.int .i64 s.win,.int .i64 s.tak] W fun e w'=>(∃a c,e=.returned (.tuple #[.slice a (s.slots++[(s.tak,false)]).length c,.bool true])/\LC w' a (s.slots++[(s.tak,false)]).length c 2 (scs (s.slots++[(s.tak,false)]))/\FarC W.heap.size a)/\Below W.heap.size W w':=by
 obtain⟨a,c,e,hl⟩:=S.its.isl
 rw[e]
 exact zgH a s.slots.length c s.win s.tak hw s.slots hm (by omega) W (hl.below (Aa _) hW)
theorem zfu{N:Nat}{w:World}{b:Nat}{s:Cr}{L:Sls}(S:St N w b s L)(hw:s.win<=(s.slots.length:Int))(W:World):
  Calls prog 91 #[L.s,.int .i64 s.win,.int .i64 s.tak] W fun e w'=>(∃a c,e=.returned (.tuple #[.slice a 0 c,.bool false]))/\Below W.heap.size W w':=by
 obtain⟨a,c,e,hl⟩:=S.its.isl
 rw[e]
 refine(ze4 a s.slots.length c s.win s.tak hw W).mono ?_
 rintro e w' ⟨⟨a',c',h1,_⟩,h2⟩
 exact⟨⟨a',c',h1⟩,h2⟩
theorem cCut{N:Nat}{w:World}{b:Nat}{s:Cr}{L:Sls}(S:St N w b s L)(q:Int)(hn:s.slots.length<=100000)(W:World)(hW:Below w.heap.size w W):
  Calls prog 161 #[L.s,.int .i64 q] W fun e w'=>zbP W (vd s.slots q) (cutS s.slots q) e w':=by
 obtain⟨a,c,e,hl⟩:=S.its.isl
 rw[e]
 exact zjk a s.slots.length c q s.slots (by omega) W (hl.below (Aa _) hW)
theorem cPop{N:Nat}{w:World}{b:Nat}{s:Cr}{L:Sls}(S:St N w b s L)(most:Int)(m:Nat)(hm:Goes s.slots most m)(hn:s.slots.length<=100000)(W:World)(hW:Below w.heap.size w W):
  Calls prog 50 #[L.s,.int .i64 most] W fun e w'=>zbP W (s.slots.drop m) (jS s.slots m) e w':=by
 obtain⟨a,c,e,hl⟩:=S.its.isl
 rw[e]
 exact ziZ a s.slots.length c most s.slots m hm (by omega) W (hl.below (Aa _) hW)
abbrev mpL(s:Cr)(L:Sls):List Value:=(rowOf (mat s.phys s.regs L.f) 34).toList
theorem St.names{N:Nat}{w:World}{b:Nat}{s:Cr}{L:Sls}(S:St N w b s L):w.rangeAt b 107 (mpL s L):=jx S.row (by omega) (zjm s L)
theorem jb(P:Int)(r:Nat->Int)(v:Value):(prog.info? 59).map (·.size)=some (rowOf (mat P r v) 34).toList.length:=by
 rw[Re.size_map,Array.length_toList,zf]
theorem zlR(P:Int)(r:Nat->Int)(a:Option Addr)(n c:Nat)(i:Nat):(mat P r (.slice a n c) i).oneCell'=true:=by
 unfold mat
 split
 ·rfl
 ·split<;>rfl
theorem kv(P:Int)(r:Nat->Int)(a:Option Addr)(n c:Nat):(rowOf (mat P r (.slice a n c)) 34).all (·.oneCell')=true:=ja _ _ fun i _=>zlR _ _ _ _ _ i
theorem zps{N:Nat}{w:World}{b:Nat}{s:Cr}{L:Sls}(S:St N w b s L)(hN:Nms s)(k:Nat)(k0:k≠0)(k1:k<32)(hf:s.free≠[])(W:World)(hW:Below w.heap.size w W):
  Calls prog 137 #[.agg (mpL s L).toArray,.int .i64 k] W fun e w'=>(∃a c,e=.returned (.tuple #[.agg (rowOf (mat s.phys (up s.regs k (s.free.headD 0)) (.slice a s.free.tail.length c)) 34),.int .i64 (s.free.headD 0),.int .i64 (s.regs k),.bool true])/\Re.Lie w' a s.free.tail.length c (fun i=>s.free.tail.getD i 0)/\FarC W.heap.size a)/\Below W.heap.size W w':=by
 obtain⟨a,c,e,hl⟩:=S.its.ifr
 have hlen:0<s.free.length:=List.length_pos_iff.2 hf
 have hT:(mpL s L).toArray=mcs s.phys s.regs (.slice a s.free.length c):=by rw[xP,<-e]
 refine(Re.zgB (mpL s L).toArray s.phys s.regs (fun i=>s.free.getD i 0) a s.free.length c hT hN.may (by rw[hT];rfl) (by rw[hT];rfl) hN.rg k (by omega) k1 hlen W (hl.below (Aa _) hW)).mono ?_
 rintro e' w' ⟨⟨a',c',rfl,h2,h3⟩,h4⟩
 have e1:s.free.length-1=s.free.tail.length:=by simp
 have e2:s.free.getD 0 0=s.free.headD 0:=by cases s.free<;>rfl
 have e3:∀i,tl (fun i=>s.free.getD i 0) i=s.free.tail.getD i 0:=fun i=>by
  cases s.free with
  |nil=>rfl
  |cons x l=>rfl
 refine⟨⟨a',c',?_,?_,h3⟩,h4⟩
 ·rw[xP,e1]
  simp only[e2]
 ·rw[<-e1]
  exact h2.congr fun i _=>e3 i
theorem zpt{N:Nat}{w:World}{b:Nat}{s:Cr}{L:Sls}(S:St N w b s L)(hN:Nms s)(k:Nat)(k0:k≠0)(k1:k<32)(x:Int)(x0:0<=x)(x1:x<s.phys)(hf:x∉s.free)(hr:∀r,r<32->s.regs r≠x)(W:World)(hW:Below w.heap.size w W):
  Calls prog 162 #[.agg (mpL s L).toArray,.int .i64 k,.int .i64 x] W fun e w'=>(∃a c,e=.returned (.tuple #[.agg (rowOf (mat s.phys (up s.regs k x) (.slice a (s.regs k::s.free).length c)) 34),.bool true])/\Re.Lie w' a (s.regs k::s.free).length c (fun i=>(s.regs k::s.free).getD i 0)/\FarC W.heap.size a)/\Below W.heap.size W w':=by
 obtain⟨a,c,e,hl⟩:=S.its.ifr
 have hT:(mpL s L).toArray=mcs s.phys s.regs (.slice a s.free.length c):=by rw[xP,<-e]
 refine(Re.zhx (mpL s L).toArray s.phys s.regs (fun i=>s.free.getD i 0) a s.free.length c hT hN.may (by rw[hT];rfl) (by rw[hT];rfl) hN.rg k (by omega) k1 x (hN.idle x0 x1 hf hr) W (hl.below (Aa _) hW)).mono ?_
 rintro e' w' ⟨⟨a',c',rfl,h2,h3⟩,h4⟩
 refine⟨⟨a',c',?_,?_,h3⟩,h4⟩
 ·rw[xP,Ak]
 ·rw[Ak]
  exact h2.congr fun i _=>by
   unfold hd
   cases i with
   |zero=>rfl
   |succ i=>simp
theorem zn7{N:Nat}{w:World}{b:Nat}{s:Cr}{L:Sls}(S:St N w b s L)(hN:Nms s)(x:Int)(x0:0<=x)(x1:x<s.phys)(hf:x∉s.free)(hr:∀r,r<32->s.regs r≠x)(W:World)(hW:Below w.heap.size w W):
  Calls prog 79 #[.agg (mpL s L).toArray,.int .i64 x] W fun e w'=>(∃a c,e=.returned (.tuple #[.agg (rowOf (mat s.phys s.regs (.slice a (s.free++[x]).length c)) 34),.bool true])/\Re.Lie w' a (s.free++[x]).length c (fun i=>(s.free++[x]).getD i 0)/\FarC W.heap.size a)/\Below W.heap.size W w':=by
 obtain⟨a,c,e,hl⟩:=S.its.ifr
 have hT:(mpL s L).toArray=mcs s.phys s.regs (.slice a s.free.length c):=by rw[xP,<-e]
 refine(Re.zgC (mpL s L).toArray s.phys s.regs (fun i=>s.free.getD i 0) a s.free.length c hT hN.may (by rw[hT];rfl) (by rw[hT];rfl) hN.rg x (hN.idle x0 x1 hf hr) W (hl.below (Aa _) hW)).mono ?_
 rintro e' w' ⟨⟨a',c',rfl,h2,h3⟩,h4⟩
 refine⟨⟨a',c',?_,?_,h3⟩,h4⟩
 ·rw[xP,Aj]
  rfl
 ·rw[Aj]
  exact h2.congr fun i hi=>by
   unfold en
   simp only[Ad]
   split
   ·rw[List.getElem?_append_left (by omega)]
   ·rw[List.getElem?_append_right (by omega),show i-s.free.length=0 by omega]
    rfl
theorem zB{w w1 w2:World}{row:Option Nat}(h:w.grownBy w1 row)(k:w1.grownBy w2 row):w.grownBy w2 row:=
 ⟨k.os.trans h.os,k.tape.trans h.tape,k.output.trans h.output,Af h.size k.size,fun g hg hn=>(k.block g (Ag hg h.size) hn).trans (h.block g hg hn)⟩
theorem kC(c:Cm):(prog.info? 68).map (·.size)=some (cC c).size:=za
theorem vK(c:Cm):(cC c).all (·.oneCell')=true:=(qU c).2
theorem Bx.there{w:World}{q:Nat}{o:Dg}(h:Bx w q o)(j m:Nat)(hj:j+m<=28):w.there q j m:=fun i hi=>by
 refine⟨?_,Ai _ _ _ _ _ h⟩
 rw[WZ _ _ _ _ _ _ h,Array.getElem?_eq_getElem (by simp[zF];omega)]
 rfl
theorem St.frozen{N:Nat}{w:World}{b:Nat}{s:Cr}{L:Sls}(S:St N w b s L)(i:Nat):w.frozen? ⟨b,i,none⟩=false:=Ai _ _ _ _ _ S.row
theorem St.there{N:Nat}{w:World}{b:Nat}{s:Cr}{L:Sls}(S:St N w b s L)(j m:Nat)(hj:j+m<=339):w.there b j m:=xe S.row hj
theorem Apt.setNames{b q:Nat}{s:Cr}{L:Sls}(A:Apt b q s L){l:List Int}{r:Nat->Int}{a:Option Addr}{c:Nat}{B:Nat}(hf:FarC B a)(hq:q<B):Apt b q {s with regs:=r,free:=l} {L with f:=.slice a l.length c}:=by
 refine⟨A.o,A.m,fun g hg _=>?_,A.sl,A.r,A.g1,A.g2⟩
 cases a with
 |none=>cases hg
 |some x=>have:=hf x rfl;have:x.block=g:=Ab hg;omega
theorem qV{N:Nat}{w:World}{b:Nat}{s:Cr}{L:Sls}(S:St N w b s L){B:Nat}(hB:w.heap.size<=B){a:Option Addr}(hf:FarC B a):∀x,a=some x->¬own b L x.block:=fun x hx ho=>by
 have:=hf x hx
 have:=qN S ho
 omega
theorem zhy{N:Nat}{w:World}{b q:Nat}{s:Cr}{L:Sls}{o:Dg}(S:St N w b s L)(B:Bx w q o)(A:Apt b q s L)(k:Int)(m:Nat)(hd:DonAt s.slots o.seq m)(hn:s.slots.length<=100000):
  Calls prog 96 #[.pointer (some ⟨b,0,none⟩),.pointer (some ⟨q,0,none⟩),.int .i64 k] w fun e w'=>e=.returned (.tuple #[])/\∃L',St N w' b (yo s o k).1 L'/\Bx w' q (yo s o k).2/\Toq b q w L w' L':=by
 have c1:=zl B 1 (v:=.int .u32 o.pc) rfl
 have CT:=fun W=>zpo o.pc k W
 have HS:Hid (St N w b s L):=S
 have HB:Hid (Bx w q o):=B
 have HA:Hid (Apt b q s L):=A
 have HD:Hid (DonAt s.slots o.seq m):=hd
 obtain⟨c,hc⟩:∃c,c=qj o.pc k:=⟨_,rfl⟩
 have HC:Hid (c=qj o.pc k):=hc
 rw[<-hc]at CT
 clear S B A hd hc
 go_enter func96,ntmps96
 go_wp2_with fail
 refine(CT _).mono ?_
 rintro e V1 ⟨rfl,hk⟩
 have S1:Hid (St N V1 b s L):=HS.out.below hk
 have B1:Hid (Bx V1 q o):=HB.out.below hk
 have T1:Hid (Toq b q w L V1 L):=(ze L hk).q
 have c7:=zl B1.out 7 (v:=.int .i64 o.st) rfl
 have f7:=qw B1.out 7
 have B2:Hid (Bx (V1.setCell ⟨q,7,none⟩ (.int .i64 2)) q {o with st:=2}):=B1.out.put 7 _ (by omega) rfl
 clear hk c1 CT HS HB
 go_upto_region 1 with(refine wpList_store_mid rfl 68 _ _ rfl q 17 (cC c) rfl rfl (B2.out.there 17 11 (by omega)) (kC c) (vK c) ?_)
 have B3:Hid (Bx ((V1.setCell ⟨q,7,none⟩ (.int .i64 2)).setCells q 17 (cC c).toList) q {o with st:=2,c:=c}):=B2.out.puts 17 _ (by simp[cC]) rfl
 have hg:V1.grownBy ((V1.setCell ⟨q,7,none⟩ (.int .i64 2)).setCells q 17 (cC c).toList) (some q):=zB (zZ V1 q 7 _) (zD _ q 17 _)
 have S3:Hid (St N ((V1.setCell ⟨q,7,none⟩ (.int .i64 2)).setCells q 17 (cC c).toList) b s L):=S1.out.other hg HA.out
 have T3:Hid (Toq b q w L ((V1.setCell ⟨q,7,none⟩ (.int .i64 2)).setCells q 17 (cC c).toList) L):=T1.out.trans (zax hg)
 clear hg S1 B1 T1 B2 c7 f7
 generalize (V1.setCell ⟨q,7,none⟩ (.int .i64 2)).setCells q 17 (cC c).toList=V at*
 obtain⟨a,cc,ea,hl0⟩:=S3.out.its.isl
 have k333:V.cell? ⟨b,333,none⟩=some (.slice a s.slots.length cc):=(zd S3.out.row (by omega)).trans (congrArg some ea)
 have CD:Hid (∀W,Below V.heap.size V W->Calls prog 124 #[.slice a s.slots.length cc,.int .i64 o.seq] W fun e w'=>(∃a c,e=.returned (.tuple #[.slice a (donS s.slots o.seq).length c,.bool true])/\LC w' a (donS s.slots o.seq).length c 2 (scs (donS s.slots o.seq))/\FarC W.heap.size a)/\Below W.heap.size W w'):=fun W hW=>by
  have:=zn6 S3.out o.seq m HD.out hn W hW
  rw[ea]at this
  exact this
 clear hl0
 refine zq (S:=fun w'=>w'.cell? ⟨b,333,none⟩=some (.slice a s.slots.length cc)/\w'.cell? ⟨q,0,none⟩=some (.int .i64 o.seq)) [15] (by kernel_rfl) (⟨k333,zl B3.out 0 rfl⟩) (fun hH=>?_)
 refine tU 0 (.pointer (some ⟨b,0,none⟩)) ?_;go_simp
 refine tU 1 (.pointer (some ⟨b,0,none⟩)) ?_;go_simp
 refine tU 2 (.pointer (some ⟨b,0,none⟩)) ?_;go_simp
 refine tU 3 (.pointer (some ⟨b,333,none⟩)) ?_;go_simp
 refine tA 4 (.slice a s.slots.length cc) ?_;go_simp
 refine tU 5 (.pointer (some ⟨q,0,none⟩)) ?_;go_simp
 refine tU 6 (.pointer (some ⟨q,0,none⟩)) ?_;go_simp
 refine tU 7 (.pointer (some ⟨q,0,none⟩)) ?_;go_simp
 refine tB 8 (.int .i64 o.seq) ?_;go_simp
 refine zC 9 rfl (fun K hK=>?_)
 go_simp
 refine(CD.out _ ((Below.refl _ _).drew)).mono ?_
 rintro e V3 ⟨⟨a3,c3,rfl,hl3,hf3⟩,hk⟩
 have HK:Hid (Below V.heap.size V V3):=zg hk (Aa _)
 have HL3:Hid (LC V3 a3 (donS s.slots o.seq).length c3 2 (scs (donS s.slots o.seq))/\FarC V.heap.size a3):=⟨hl3,hf3⟩
 clear hl3 hf3
 go_wp2_with fail
 refine hK.out _ _ (⟨zn hk (hH.1),zn hk (hH.2)⟩) (fun hN=>?_)
 clear hK K hH
 have hH:=hN
 clear hN
 try go_simp
 have S4:Hid (St N V3 b s L):=S3.out.below HK.out
 have cA:=hH.1
 have fA:=S4.out.frozen 333
 refine tU 10 (.tuple #[.slice a3 (donS s.slots o.seq).length c3,.bool true]) ?_;go_simp
 refine tU 11 (.slice a3 (donS s.slots o.seq).length c3) ?_;go_simp
 refine tU 12 (.bool true) ?_;go_simp
 refine tU 13 (.pointer (some ⟨b,0,none⟩)) ?_;go_simp
 refine tU 14 (.pointer (some ⟨b,333,none⟩)) ?_;go_simp
 refine zL 15 rfl (fun K hK=>?_)
 go_simp
 refine hK.out _ _ ?_
 clear hK K
 try go_simp
 refine zE (by kernel_rfl) ?_ _
 have B4:Hid (Bx V3 q {o with st:=2,c:=c}):=B3.out.below HK.out
 obtain⟨S5,T5⟩:=S4.out.setSlots HL3.out.1 (qV S3.out (Aa _) HL3.out.2)
 have B5:Hid (Bx (V3.setCell ⟨b,333,none⟩ (.slice a3 (donS s.slots o.seq).length c3)) q {o with st:=2,c:=c}):=B4.out.to T5 HA.out.o
 have T6:Hid (Toq b q w L (V3.setCell ⟨b,333,none⟩ (.slice a3 (donS s.slots o.seq).length c3)) {L with s:=.slice a3 (donS s.slots o.seq).length c3}):=(T3.out.trans (ze L HK.out).q).trans T5.q
 have S6:Hid (St N (V3.setCell ⟨b,333,none⟩ (.slice a3 (donS s.slots o.seq).length c3)) b {s with slots:=donS s.slots o.seq} {L with s:=.slice a3 (donS s.slots o.seq).length c3}):=S5
 have HO:Hid (¬own b {L with s:=.slice a3 (donS s.slots o.seq).length c3} q):=HA.out.o
 clear S5 T5 S4 T3 S3 HK HL3 B3 B4 HD CD hH cA fA k333 HA ea
 generalize V3.setCell ⟨b,333,none⟩ (.slice a3 (donS s.slots o.seq).length c3)=V5 at*
 generalize ({L with s:=.slice a3 (donS s.slots o.seq).length c3}:Sls)=L5 at*
 have cA:V5.cell? ⟨b,338,none⟩=some (.bool s.opn):=(zd S6.out.row (by omega)).trans rfl
 have fA:=S6.out.frozen 338
 go_wp2_with fail
 refine bodyPost_end (results_none rfl _ _ _) rfl ⟨rfl,L5,?_⟩
 obtain⟨S7,T7⟩:=S6.out.setOpn false
 have:=HC.out
 subst this
 exact⟨S7,B5.out.to T7 HO.out,T6.out.trans T7.q⟩
end Go.Proofs.YtpiohehijkpghacGreatDoor.Co
