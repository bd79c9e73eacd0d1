/- One line, model and run: the program. -/
import Derived.Test.YtpiohehijkpghacGreatDoorD02
open Array renaming getElem?_eq_some_iff->Ah,mem_of_getElem?->Aq
open Go renaming wpAnyH_ready->Ae,cell_of_row->Ag,wp_region_held_drew->Ai,wpAnyH_done->Aj,wpList_load_row->Av
open Go.AllReadyH renaming cons->Aa,nil->Ab
open Go.Code renaming wp->Az
open Go.IntKind renaming signed->Aw,wrap->AA,bits->AB
open Go.Lib renaming itoa->Ak,itoa_length_le->Ar
open Go.Region renaming noSelect->Au,ready->Ax,free->AC
open Go.RowKit.Below renaming refl->Ad
open Go.Value renaming int->Ac
open Go.World renaming ownsRow->Am
open List renaming getElem?_eq_some_iff->Al,getElem?_eq_getElem->An,range->Ao,getElem?_eq_none->Ap,length_set->At
open Nat renaming le_refl->Af,zero_le->As,zero_add->Ay
set_option maxHeartbeats 4000000
set_option maxRecDepth 20000
set_option linter.unusedSimpArgs false
set_option linter.unusedVariables false
open Go.Proofs.Tryz
namespace Go.Proofs.YtpiohehijkpghacGreatDoor.Dr
open Go.RowKit
theorem zkM{w:World}{B e:Nat}{g n c:Nat}{xs:List Value}(h:w.ownsRow B e 1 (.slice (some ⟨g,0,none⟩) n c) n xs){i:Nat}(hi:i<n)(u:Value):(w.setCell ⟨g,i,none⟩ u).ownsRow B e 1 (.slice (some ⟨g,0,none⟩) n c) n (xs.set i u):=by
 obtain⟨h1,h2⟩:=h
 refine⟨by rw[At];exact h1,?_⟩
 rcases h2 with⟨h2,_⟩|⟨g',cap,cur,hv,hg,hh,hnc,hm,hs,ht⟩
 ·cases h2
 ·injection hv with e1 e2 e3
  injection e1 with e1
  injection e1 with e1 _ _
  subst e1
  refine .inr ⟨g,cap,_,by rw[e3],hg,xL hh,hnc,hm,by simpa using hs,?_⟩
  rw[Array.toList_setIfInBounds,List.take_set,ht]
theorem PW.putC{T:TypeId}{N:Nat}{w:World}{b:Nat}{p:Ps}{M:Value}{g c:Nat}(h:PW T N w b p M (.slice (some ⟨g,0,none⟩) p.ch.length c))(h3:T≠3){i:Nat}(hi:i<p.ch.length)(x:Int):PW T N (w.setCell ⟨g,i,none⟩ (.int .i64 x)) b {p with ch:=p.ch.set i x} M (.slice (some ⟨g,0,none⟩) p.ch.length c):=by
 have hb:b≠g:=fun e=>zV h.ch h.row h3 (by rw[e];rfl)
 refine⟨h.base,((Frm.set w g i _).block b h.lt hb).trans h.row,qn h.mem fun k hk=>(Frm.set w g i _).block k (h.mem.lt k hk).2 fun e=>yQ h.mem h.ch (by decide) hk (by rw[e];rfl),?_⟩
 have:=zkM h.ch hi (.int .i64 x)
 show Am _ _ _ _ _ _ _
 rw[At]
 have e:ici (p.ch.set i x)=(ici p.ch).set i (.int .i64 x):=by simp[ici,List.map_set]
 rw[e]
 exact this
def chI(ns:List Nat)(i:Nat):List Int:=(ns.take i).map (fun(n:Nat)=>(n:Int))++List.replicate (ns.length-i) 0
theorem zcC(ns:List Nat){i:Nat}(hi:i<=ns.length):(chI ns i).length=ns.length:=by simp[chI];omega
theorem zkN(ns:List Nat):chI ns ns.length=ns.map fun(n:Nat)=>(n:Int):=by simp[chI]
theorem zkO(ns:List Nat){i x:Nat}(hi:i<ns.length)(hx:ns[i]?=some x):(chI ns i).set i (x:Int)=chI ns (i+1):=by
 unfold chI
 have h1:((ns.take i).map fun(n:Nat)=>(n:Int)).length=i:=by simp;omega
 rw[List.set_append_right _ _ (by omega),h1,Nat.sub_self,List.take_add_one,hx]
 obtain⟨k,hk⟩:∃k,ns.length-i=k+1:=⟨ns.length-i-1,by omega⟩
 rw[hk,show ns.length-(i+1)=k by omega,List.replicate_succ]
 simp
theorem zmR:(prog.info? 3).map (fun i=>(i.zero,i.size,i.bytes))=some (some (.int .i64 0),1,8):=by kernel_rfl
theorem zcD{N b:Nat}{p:Ps}{M C:Value}(w:World)(h:PW 82 N w b p M C)(v:Value)(ns:List Nat)(hl:ns.length<=3000000)(hr:∀x∈ns,x<4294967296)(hp:∀W,Below N w W->Pow W)(hv:Args w b M C v ns):
  Calls prog 45 #[.pointer (some ⟨b,0,none⟩),v] w fun e w'=>e=.returned (sv (zx tOk [(ns.length:Int)]))/\PTo 82 N b w M C w' {p with ch:=ns.map fun(n:Nat)=>(n:Int)}:=by
 have HH:Hid (PW 82 N w b p M C):=h
 have HV:=hv
 obtain⟨a,c,rfl,_⟩:=hv
 have HV:Hid (Args w b M C (.slice a ns.length c) ns):=HV
 have HR:Hid (∀x∈ns,x<4294967296):=hr
 have HP:Hid (∀W,Below N w W->Pow W):=hp
 have HN:Hid (N<=w.heap.size):=by have:=h.lt;have:=h.base;show _<=_;omega
 obtain⟨cp,cc,rfl⟩:=qA h.ch
 have k:w.cell? ⟨b,39,none⟩=some (.slice cp p.ch.length cc):=h.cell 39 (by omega)
 obtain⟨i0,hi,hz0,hz1,hz2⟩:=info_parts zmR
 clear h hr hp
 go_enter func45,ntmps45
 go_upto_region 2 with(at_make;refine wpList_make_full _ rfl _ _ 29 rfl N 3 i0 (.int .i64 0) 1 underlying29 hi hz0 hz1 .i64 .i64 _ _ ns.length rfl rfl rfl rfl ?q1 ?q2 ?q3 ?_)
 case q1=>rw[hz2];omega
 case q2=>unfold maxLen;omega
 case q3=>exact HN.out
 intro w1 ho1 hg1
 have F1:Hid (Frm (fun k=>(Value.slice cp p.ch.length cc).ownBlock=some k) w w1):=(Frm.grown hg1).mono fun k hk=>by cases hk
 have O1:Hid (w1.ownsRow N 3 1 (.slice (some ⟨w.heap.size,0,none⟩) ns.length ns.length) (chI ns 0).length (ici (chI ns 0))):=by
  have e:(madeCells #[Ac .i64 0] ns.length).toList=ici (chI ns 0):=by
   apply List.ext_getElem?
   intro j
   by_cases hj:j<ns.length
   ·simp[madeCells,chI,ici,hj,Nat.mod_one]
   ·rw[Ap (by simp[madeCells];omega),Ap (by simp[chI,ici];omega)]
  rw[e]at ho1
  have e2:=zcC ns (As ns.length)
  show Am _ _ _ _ _ _ _
  rw[e2]
  exact ho1
 have k1:w1.cell? ⟨b,39,none⟩=some (.slice cp p.ch.length cc):=(qB (F1.out.block b HH.out.lt fun e=>zV HH.out.ch HH.out.row (by decide) e)).trans k
 have f1:w1.frozen? ⟨b,39,none⟩=false:=frozen_of_row _ _ _ _ _ ((F1.out.block b HH.out.lt fun e=>zV HH.out.ch HH.out.row (by decide) e).trans HH.out.row)
 clear ho1 hg1 k
 go_wp2_with fail
 have P1:Hid (PW 82 N (w1.setCell ⟨b,39,none⟩ (.slice (some ⟨w.heap.size,0,none⟩) ns.length ns.length)) b {p with ch:=chI ns 0} M (.slice (some ⟨w.heap.size,0,none⟩) ns.length ns.length)):=HH.out.setC (by decide) (by decide) F1.out _ _ O1.out
 have G1:Hid (Frm (Mine b M (.slice cp p.ch.length cc)) w (w1.setCell ⟨b,39,none⟩ (.slice (some ⟨w.heap.size,0,none⟩) ns.length ns.length))):=(F1.out.mono fun k hk=>.inr (.inr hk)).trans (Frm.set _ _ _ _) fun i hi=>.inl (.inl hi)
 clear k1 f1 O1 F1
 go_loopw [15] (fun ct wr=>∃i:Nat,ct=.int .i64 (i:Int)/\i<=ns.length/\Hid (PW 82 N wr b {p with ch:=chI ns i} M (.slice (some ⟨w.heap.size,0,none⟩) ns.length ns.length)/\Frm (Mine b M (.slice cp p.ch.length cc)) w wr)) (fun ct _=>ns.length-(intOf ct).toNat)
 case atStart=>exact⟨0,rfl,As _,P1.out,G1.out⟩
 case round=>
  obtain⟨i,rfl,hil,hrel⟩:=hrel
  have P2:Hid (PW 82 N wr b {p with ch:=chI ns i} M (.slice (some ⟨w.heap.size,0,none⟩) ns.length ns.length)):=hrel.out.1
  have F2:Hid (Frm (Mine b M (.slice cp p.ch.length cc)) w wr):=hrel.out.2
  clear hrel P1 G1
  have k39:wr.cell? ⟨b,39,none⟩=some (.slice (some ⟨w.heap.size,0,none⟩) ns.length ns.length):=P2.out.cell 39 (by omega)
  by_cases hlt:i<ns.length
  ·obtain⟨g,o,rfl,hgw,hcl⟩:=HV.out.at F2.out (by omega)
   obtain⟨x,hx⟩:∃x,ns[i]?=some x:=⟨_,An hlt⟩
   have hxr:=HR.out x (List.mem_of_getElem? hx)
   have hcx:wr.cell? ⟨g,o+i,none⟩=some (.int .u32 (x:Int)):=hcl i x hx
   have HX:Hid (ns[i]?=some x):=hx
   have hq:=zcC ns hil
   obtain⟨y,hy⟩:∃y,wr.cell? ⟨w.heap.size,i,none⟩=some (.int .i64 y):=by
    have h1:=P2.out.ch.cells (g:=w.heap.size) rfl i
    have hadd:(⟨w.heap.size,0,none⟩:Addr).add i=⟨w.heap.size,i,none⟩:=by unfold Addr.add;split<;>simp_all
    rw[hadd]at h1
    exact⟨_,h1 _ (by show(ici (chI ns i))[i]?=_;unfold ici;rw[List.getElem?_map,An (by rw[hq];exact hlt)];rfl)⟩
   have fy:wr.frozen? ⟨w.heap.size,i,none⟩=false:=by
    obtain⟨c1,hc1⟩:=zaG P2.out.ch (g:=w.heap.size) rfl
    exact frozen_of_row _ _ _ _ _ hc1
   clear hcl hx hq
   go_wp2_with fail
   go_roundw
   case rel=>
    refine⟨i+1,by go_num,by omega,?_,?_⟩
    ·have e:=zcC ns hil
     have P3:PW 82 N wr b {p with ch:=chI ns i} M (.slice (some ⟨w.heap.size,0,none⟩) (chI ns i).length ns.length):=by rw[e];exact P2.out
     have P4:=P3.putC (by decide) (i:=i) (by show i<(chI ns i).length;omega) (x:Int)
     have e2:({p with ch:=(chI ns i).set i (x:Int)}:Ps)={p with ch:=chI ns (i+1)}:=by rw[zkO ns hlt HX.out]
     have P5:PW 82 N (wr.setCell ⟨w.heap.size,i,none⟩ (.int .i64 (x:Int))) b {p with ch:=(chI ns i).set i (x:Int)} M (.slice (some ⟨w.heap.size,0,none⟩) (chI ns i).length ns.length):=P4
     rw[e2,e]at P5
     exact P5
    ·exact F2.out.trans (Frm.set _ _ _ _) fun k hk=>.inr (by rw[hk];exact Af _)
   case measure=>simp[intOf];omega
  ·obtain rfl:i=ns.length:=by omega
   have PE:Hid (PW 82 N wr b {p with ch:=ns.map fun(n:Nat)=>(n:Int)} M (.slice (some ⟨w.heap.size,0,none⟩) ns.length ns.length)):=by have:=P2.out;rw[zkN]at this;exact this
   have BN:Hid (Below N w wr):=F2.out.below (by have:=HH.out.lt;have:=HH.out.base;omega) fun k hk=>(HH.out.mine k hk).1
   have CT:=fun v hv=>xl tOk [(ns.length:Int)] v (wr.alloc (.cells #[.int .i64 (ns.length:Int)] 3)) ((HP.out wr BN.out).below ((Ad _ _).alloc (Af _) _)) (by decide) (by simp) (fun x hx=>by simp at hx;subst hx;omega) hv
   have CT:=CT (.slice (some ⟨wr.heap.size,0,none⟩) 1 1) ⟨_,_,rfl,fun _=>⟨_,_,rfl,by simp,fun j x hx=>by
    have hj:j=0:=by have:=(Al.1 hx).1;simp at this;omega
    subst hj
    rw[Ag _ wr.heap.size _ _ _ (0,0) (heap_alloc_new wr _)]
    simp at hx
    simp[hx]⟩⟩
   clear P2
   go_wp2_with(go_at_call 73;refine CT.mono ?_;rintro e w3 ⟨rfl,hb3⟩)
   go_ret
   exact⟨rfl,PTo.behind ⟨_,_,PE.out,F2.out,fun k hk=>.inl hk,fun k hk=>.inr (by simp[Value.ownBlock]at hk;omega)⟩ (((Ad _ _).alloc (Af _) _).trans (hb3.mono (by simp)))⟩
section
variable {P:Program} {md:Region.Mode} {ops:Array Oper} {Q:Exit->Act->World->Prop} {S:World->Prop}
theorem tH(i:Nat)(v:Value){oi:Oper}{fuel:Nat}{listed:Array Bool}{a:Act}{w:World}(hi:ops[i]?=some oi)(hy:YieldsIf P ops S oi v a)(hS:S w)(h:wpAnyH P md ops Q S fuel (listed.setIfInBounds i true) (a.put oi.dst v) w)
  (hs:Au ops=true:=by kernel_rfl) (hf:AC md ops listed i=true:=by kernel_rfl) (hr:(Ax md ops listed).contains i=true:=by kernel_rfl)
  (hQ:∀c a w,Q (.panic c) (a.put oi.dst v) w->Q (.panic c) a w:=by exact fun _ _ _ h=>h):wpAnyH P md ops Q S (fuel+1) listed a w:=wpAnyH_take hi hs hf hr hQ hy hS h
theorem tI(i:Nat)(v:Value){oi:Oper}{fuel:Nat}{listed:Array Bool}{a:Act}{w:World}(h:wpAnyH P md ops Q S fuel (listed.setIfInBounds i true) (a.put oi.dst v) w)
  (hi:ops[i]?=some oi:=by exact rfl) (hS:S w:=by exact hH) (hy:YieldsIf P ops S oi v a:=by exact Or.inl ⟨by rfl,by intro wz hSw;go_simp⟩) (hs:Au ops=true:=by kernel_rfl) (hf:AC md ops listed i=true:=by kernel_rfl) (hr:(Ax md ops listed).contains i=true:=by kernel_rfl)
  (hQ:∀c a w,Q (.panic c) (a.put oi.dst v) w->Q (.panic c) a w:=by exact fun _ _ _ h=>h):wpAnyH P md ops Q S (fuel+1) listed a w:=wpAnyH_take hi hs hf hr hQ hy hS h
end
theorem zj{w:World}{cs:Array Value}{t:TypeId}{Φ:World->Prop}(h:∀V,V.heap[w.heap.size]?=some (.cells cs t (0,0))->Below w.heap.size w V->Φ V):Φ (w.alloc (.cells cs t)):=
 h _ (heap_alloc_new w _) ((Ad _ _).alloc (Af _) _)
theorem jv(W:World)(k:IntKind)(l:List Int)(t:TypeId):qM (W.alloc (.cells (l.map fun x=>Ac k x).toArray t)) (.slice (some ⟨W.heap.size,0,none⟩) l.length l.length) k l:=
 ⟨_,_,rfl,fun _=>⟨_,_,rfl,by simp,fun j x hx=>by
  rw[Ag _ W.heap.size _ _ _ (0,0) (heap_alloc_new W _)]
  simp[hx]⟩⟩
abbrev uci(l:List Int):List Value:=l.map fun x=>.int .u32 x
theorem za:(prog.info? 68).map (·.size)=some 11:=by kernel_rfl
theorem zp:(prog.info? 27).map (·.size)=some 35:=by kernel_rfl
theorem zir{w:World}{B e:Nat}{v:Value}{n:Nat}{l:List Int}{k:IntKind}(h:w.ownsRow B e 1 v n (l.map fun x=>.int k x)):qM w v k l:=by
 have hl:n=l.length:=by have:=h.1;simp at this;omega
 subst hl
 obtain⟨p,c,rfl⟩:=qA h
 refine⟨p,c,rfl,fun h0=>?_⟩
 have hh:=h
 rcases h.2 with⟨_,hz⟩|⟨g,cap,cur,hv,_,hg,_⟩
 ·omega
 ·injection hv with e1 e2 e3
  subst e1
  refine⟨g,0,rfl,(Ah.1 hg).1,fun j x hx=>?_⟩
  have h1:=hh.cells (g:=g) rfl j (.int k x) (by simp[hx])
  have hadd:(⟨g,0,none⟩:Addr).add j=⟨g,j,none⟩:=by unfold Addr.add;split<;>simp_all
  rw[hadd]at h1
  rw[Ay]
  exact h1
theorem zis(v:Value)(H:Array Value)(er:Int)(hH:Hid (H.size=35))(he:(er != 0)=true)(e0:0<=er)(e1:er<=3)(w:World)(hp:Pow w):
  Calls prog 46 #[v,.agg H,.int .i64 er] w fun e w'=>e=.returned (sv (zx [98,97,100] [er]))/\Below w.heap.size w w':=by
 have HP:Hid (Pow w):=hp
 clear hp
 go_enter func46,ntmps46
 go_upto_region 2 with fail
 refine zj (Φ:=fun W=>Az _ _ _ _ W) ?_
 intro V eV hb
 have HB:Hid (Below w.heap.size w V):=hb
 have CT:=zeQ [98,97,100] [er] _ (V.alloc (.cells (([er]:List Int).map fun x=>Ac .i64 x).toArray 33)) ((HP.out.below hb).below ((Ad _ _).alloc (Af _) _)) (by decide) (by simp) (fun x hx=>by simp at hx;subst hx;omega) (jv V .i64 [er] 33)
 clear eV hb
 go_wp2_with(go_at_call 74;refine CT.mono ?_;rintro e w3 ⟨rfl,hb3⟩)
 go_ret
 exact⟨rfl,HB.out.trans ((((Ad _ _).alloc (Af _) _).trans (hb3.mono (by simp))).mono HB.out.size)⟩
theorem zit(v:Value)(H:Array Value)(pc st ca:Int)(n:Nat)(ot:Nat->Bool)(tl:Nat->Int)(hH:Hid (H.size=35))(h32:H[32]?=some (.int .u32 pc))(h33:H[33]?=some (.int .i64 st))(h34:H[34]?=some (.int .i64 ca))(hn:n<=24000)
  (p0:0<=pc/\pc<=4294967295) (s0:0<=st/\st<=6) (c0:0<=ca/\ca<=6) (ht:∀x∈zP ot tl n,0<=x/\x<=4294967295) (w:World) (hp:Pow w) (hv:ComP w v n ot tl):
  Calls prog 46 #[v,.agg H,.int .i64 0] w fun e w'=>e=.returned (sv (zx (zx (Ak n) [st,ca]) (pc::zP ot tl n)))/\Below w.heap.size w w':=by
 have HP:Hid (Pow w):=hp
 have HT:Hid (∀x∈zP ot tl n,0<=x/\x<=4294967295):=ht
 have HV:Hid (ComP w v n ot tl):=hv
 obtain⟨a,c,g,rfl,hnc,_⟩:=hv
 obtain⟨i0,hi,hz0,hz1,hz2⟩:=info_parts zj8
 clear hp ht
 go_enter func46,ntmps46
 go_upto_region 3 with fail
 refine zj (Φ:=fun W=>Az _ _ _ _ W) ?_
 intro V eV hb
 have HB:Hid (Below w.heap.size w V):=hb
 have k32:V.cell? ⟨w.heap.size,32,none⟩=some (.int .u32 pc):=by rw[Ag _ _ _ _ _ _ eV];exact h32
 have k33:V.cell? ⟨w.heap.size,33,none⟩=some (.int .i64 st):=by rw[Ag _ _ _ _ _ _ eV];exact h33
 have k34:V.cell? ⟨w.heap.size,34,none⟩=some (.int .i64 ca):=by rw[Ag _ _ _ _ _ _ eV];exact h34
 have hqV:w.heap.size<V.heap.size:=(Ah.1 eV).1
 obtain⟨q,hq⟩:∃q,q=w.heap.size:=⟨_,rfl⟩
 rw[<-hq]at k32 k33 k34 hqV⊢
 have HC:Hid (ComP V (.slice a n c) n ot tl):=HV.out.below hb
 clear eV hb hq HV
 go_wp2_with fail
 have O1:Hid ((V.alloc (.cells #[.int .u32 pc] 24)).ownsRow V.heap.size 24 1 (.slice (some ⟨V.heap.size,0,none⟩) 1 1) (1+(zP ot tl 0).length) (uci (pc::zP ot tl 0))):=⟨rfl,.inr ⟨_,_,_,rfl,Af _,heap_alloc_new V _,Af _,by unfold maxLen;omega,rfl,rfl⟩⟩
 go_loopw [7,20] (fun tv ct wr=>∃i:Nat,ct=.int .i64 (i:Int)/\i<=n/\Hid (wr.ownsRow V.heap.size 24 1 tv (1+(zP ot tl i).length) (uci (pc::zP ot tl i))/\Below V.heap.size V wr)) (fun _ ct _=>n-(intOf ct).toNat)
 case atStart=>exact⟨0,rfl,As _,O1.out,(Ad _ _).alloc (Af _) _⟩
 case round=>
  clear O1
  obtain⟨i,rfl,hil,hrel⟩:=hrel
  have q7:Hid (wr.ownsRow V.heap.size 24 1 u7 (1+(zP ot tl i).length) (uci (pc::zP ot tl i))):=hrel.out.1
  have qb:Hid (Below V.heap.size V wr):=hrel.out.2
  clear hrel
  by_cases hlt:i<n
  ·obtain⟨a',c',g,e,_,hp,hg,h1⟩:=HC.out
   injection e with e1 e2 e3
   subst e1
   subst e3
   obtain⟨b,o,rfl,hbV,hcell⟩:=hp (by omega)
   have HR:Hid (wr.rangeAt b (o+i*11) ((Ao 11).map (g i))):=fun j u hu=>by
    have hj:j<11:=by have:=(Al.1 hu).1;simpa using this
    simp[hj]at hu
    subst hu
    rw[Nat.add_assoc]
    exact(qb.out.cell (p:=⟨b,o+(i*11+j),none⟩) hbV).trans (hcell i j hlt hj)
   obtain⟨D,hD⟩:∃D,D=((Ao 11).map (g i)).toArray:=⟨_,rfl⟩
   have HDS:Hid ((prog.info? 68).map (·.size)=some D.size/\11=D.size/\D.all (·.oneCell')=true):=by
    rw[hD]
    refine⟨za,rfl,?_⟩
    rw[Array.all_eq_true_iff_forall_mem]
    intro x hx
    simp at hx
    obtain⟨j,hj,rfl⟩:=hx
    exact h1 i j hlt hj
   have HL:Hid ((prog.info? 68).map (·.size)=some ((Ao 11).map (g i)).length):=za
   have d9:D[9]?=some (.bool (ot i)):=by rw[hD,<-(hg i hlt).1];rfl
   have d10:D[10]?=some (.int .u32 (tl i)):=by rw[hD,<-(hg i hlt).2];rfl
   have HD:Hid (D=((Ao 11).map (g i)).toArray):=hD
   clear hD hcell h1 hg hp
   go_upto_region 7 with(first|(refine wpList_load_mid rfl 68 _ rfl b (o+i*11) rfl ((Ao 11).map (g i)) _ HR.out underlying68 rfl HL.out ?_;rw[<-HD.out])|(refine wpList_store_row rfl 68 _ _ rfl _ _ rfl rfl 68 _ (heap_alloc_new _ _) HDS.out.1 HDS.out.2.1 HDS.out.2.2 ?_;rw[World.setRow_alloc_new]))
   refine zj (Φ:=fun W=>Az _ _ _ _ W) ?_
   intro V2 eV2 hb2
   have B2:Hid (Below V.heap.size V V2):=qb.out.trans (hb2.mono qb.out.size)
   have O2:Hid (V2.ownsRow V.heap.size 24 1 u7 (1+(zP ot tl i).length) (uci (pc::zP ot tl i))):=ji q7.out hb2
   have k9:V2.cell? ⟨wr.heap.size,9,none⟩=some (.bool (ot i)):=by rw[Ag _ _ _ _ _ _ eV2];exact d9
   have k10:V2.cell? ⟨wr.heap.size,10,none⟩=some (.int .u32 (tl i)):=by rw[Ag _ _ _ _ _ _ eV2];exact d10
   obtain⟨z,hz⟩:∃z,z=wr.heap.size:=⟨_,rfl⟩
   have hlen:=xV ot tl i
   rw[<-hz]at k9 k10⊢
   clear eV2 hb2 hz d9 d10 HDS HL HR HD q7 qb
   cases hot:ot i with
   |false=>
    rw[hot]at k9
    have e:zP ot tl (i+1)=zP ot tl i:=by show zP ot tl i++(if ot i then[tl i]else[])=_;rw[hot];simp
    have HE:Hid (zP ot tl (i+1)=zP ot tl i):=e
    clear e hot
    go_wp2_with fail
    go_roundw
    case rel=>exact⟨i+1,by go_num,by omega,by show Am _ _ _ _ _ _ _/\Below _ _ _;rw[HE.out];exact⟨O2.out,B2.out⟩⟩
    case measure=>simp[intOf];omega
   |true=>
    rw[hot]at k9
    have e:zP ot tl (i+1)=zP ot tl i++[tl i]:=by show zP ot tl i++(if ot i then[tl i]else[])=_;rw[hot];simp
    have HE:Hid (zP ot tl (i+1)=zP ot tl i++[tl i]):=e
    clear e hot
    go_wp2_with(at_builtin;refine wpList_append_own _ rfl _ _ 69 rfl V.heap.size 24 i0 _ 1 4 underlying69 hi hz0 hz1 hz2 rfl (by decide) u7 (1+(zP ot tl i).length) (uci (pc::zP ot tl i)) rfl ?r1 ⟨V2.heap.size,0,none⟩ 1 1 [.int .u32 (tl i)] rfl ?r2 ?r3 ?r4 ?r5 ?r6 ?r7 ?_)
    case r1=>exact ji O2.out ((Ad _ _).alloc (Af _) _)
    case r4=>rfl
    case r5=>unfold maxLen;omega
    case r6=>omega
    case r7=>have:=B2.out.size;simp;omega
    intro v' w5 hown5 hgrow5 _
    have B5:Hid (Below V.heap.size V w5):=(B2.out.alloc B2.out.size _).grown hgrow5 (by have:=B2.out.size;simp;omega) (fun k hk=>(O2.out.lt k hk).1)
    have O5:Hid (w5.ownsRow V.heap.size 24 1 v' (1+(zP ot tl (i+1)).length) (uci (pc::zP ot tl (i+1)))):=by
     show Am _ _ _ _ _ _ _
     rw[HE.out,show 1+(zP ot tl i++[tl i]).length=1+(zP ot tl i).length+1 by simp;omega,show uci (pc::(zP ot tl i++[tl i]))=uci (pc::zP ot tl i)++[.int .u32 (tl i)] by simp[uci]]
     exact hown5
    clear hown5 hgrow5
    go_wp2_with fail
    go_roundw
    case rel=>exact⟨i+1,by go_num,by omega,O5.out,B5.out⟩
    case measure=>simp[intOf];omega
  ·obtain rfl:i=n:=by omega
   have hlen:=xV ot tl i
   have CD:Hid (∀W,Below wr.heap.size wr W->Calls prog 76 #[.int .i64 (i:Int)] W fun e w'=>e=.returned (sv (Ak i))/\Below W.heap.size W w'):=fun W hW=>zbt i (by omega) (by omega) W (((HP.out.below HB.out).below qb.out).below hW)
   have CT:Hid (∀W v,Below wr.heap.size wr W->qM W v .i64 [st,ca]->Calls prog 73 #[sv (Ak i),v] W fun e w'=>e=.returned (sv (zx (Ak i) [st,ca]))/\Below W.heap.size W w'):=fun W v hW hv=>xl (Ak i) [st,ca] v W (((HP.out.below HB.out).below qb.out).below hW) (by have:=Ar (i:Int) (by omega) (by omega);omega) (by simp) (fun x hx=>by simp at hx;omega) hv
   have CU:Hid (∀W,Below wr.heap.size wr W->Calls prog 75 #[sv (zx (Ak i) [st,ca]),u7] W fun e w'=>e=.returned (sv (zx (zx (Ak i) [st,ca]) (pc::zP ot tl i)))/\Below W.heap.size W w'):=fun W hW=>zag (zx (Ak i) [st,ca]) (pc::zP ot tl i) u7 W (((HP.out.below HB.out).below qb.out).below hW) (by
     have h1:=Ar (i:Int) (by omega) (by omega)
     have h2:=ju (Ak i) [st,ca] (fun x hx=>by simp at hx;omega)
     simp at h2
     omega) (by simp;omega) (fun x hx=>by
     rcases List.mem_cons.1 hx with rfl|hx
     ·exact p0
     ·exact HT.out x hx) ((zir q7.out).below hW)
   have j33:wr.cell? ⟨q,33,none⟩=some (.int .i64 st):=(qb.out.cell (p:=⟨q,33,none⟩) hqV).trans k33
   have j34:wr.cell? ⟨q,34,none⟩=some (.int .i64 ca):=(qb.out.cell (p:=⟨q,34,none⟩) hqV).trans k34
   have hqw:q<wr.heap.size:=Nat.lt_of_lt_of_le hqV qb.out.size
   have BB:Hid (Below w.heap.size w wr):=HB.out.trans (qb.out.mono HB.out.size)
   clear k33 k34 hqV q7 qb HT HP HB
   obtain⟨tn,htn⟩:∃tn,tn=Ak (i:Int):=⟨_,rfl⟩
   rw[<-htn]at CD CT CU
   obtain⟨t2,ht2⟩:∃t2,t2=zx tn [st,ca]:=⟨_,rfl⟩
   rw[<-ht2]at CT CU
   have HE:Hid (t2=zx (Ak (i:Int)) [st,ca]):=by rw[<-htn];exact ht2
   clear htn ht2
   go_upto_region 10 with fail
   refine Ai (S:=fun w'=>Below wr.heap.size wr w') (by kernel_rfl) ((Ad _ _).drew) (fun hH=>?_)
   refine tI 0 (.slice a i c) ?_;go_simp
   refine tI 1 (.int .i64 (i:Int)) ?_;go_simp
   refine tI 3 (.pointer (some ⟨q,33,none⟩)) ?_;go_simp
   refine tH 4 (.int .i64 st) rfl (Or.inl ⟨by rfl,by intro wz hSw;have hc:=(hSw.cell (p:=⟨q,33,none⟩) hqw).trans j33;go_simp⟩) hH ?_;go_simp
   refine tI 5 (.pointer (some ⟨q,34,none⟩)) ?_;go_simp
   refine tH 6 (.int .i64 ca) rfl (Or.inl ⟨by rfl,by intro wz hSw;have hc:=(hSw.cell (p:=⟨q,34,none⟩) hqw).trans j34;go_simp⟩) hH ?_;go_simp
   refine tI 9 (u7) ?_;go_simp
   refine Ae (rs:=[2,7]) (by kernel_rfl) (by simp) ?_
   refine(Aa rfl (fun K hK=>?_) (Aa rfl (fun K hK=>?_) Ab))
   ·go_simp
    refine(CD.out _ hH).mono ?_
    rintro e W1 ⟨rfl,hk⟩
    go_wp2_with fail
    refine hK.out _ _ (hH.trans (hk.mono hH.size)) (fun hH=>?_)
    clear hK K
    try go_simp
    refine Ae (rs:=[7]) (by kernel_rfl) (by simp) ?_
    refine(Aa rfl (fun K hK=>?_) Ab)
    go_simp
    refine hK.out _ _ (hH.alloc hH.size _) (fun hH2=>?_)
    have hN:=jv W1 .i64 [st,ca] 3
    clear hK K hH
    have hH:=hH2
    clear hH2
    try go_simp
    refine Ae (rs:=[8]) (by kernel_rfl) (by simp) ?_
    refine(Aa rfl (fun K hK=>?_) Ab)
    go_simp
    refine(CT.out _ _ hH hN).mono ?_
    rintro e W4 ⟨rfl,hk⟩
    go_wp2_with fail
    refine hK.out _ _ (hH.trans (hk.mono hH.size)) (fun hH=>?_)
    clear hK K
    try go_simp
    refine Ae (rs:=[10]) (by kernel_rfl) (by simp) ?_
    refine(Aa rfl (fun K hK=>?_) Ab)
    go_simp
    refine(CU.out _ hH).mono ?_
    rintro e W5 ⟨rfl,hk⟩
    go_wp2_with fail
    refine hK.out _ _ (hH.trans (hk.mono hH.size)) (fun hH=>?_)
    clear hK K
    try go_simp
    refine tI 11 (sv (zx t2 (pc::zP ot tl i))) ?_;go_simp
    refine Aj (by kernel_rfl) ?_ _
    try go_simp
    go_wp2_with fail
    go_ret
    exact⟨by rw[<-HE.out];rfl,BB.out.trans (hH.mono BB.out.size)⟩
   ·go_simp
    refine hK.out _ _ (hH.alloc hH.size _) (fun hH2=>?_)
    have hN:=jv wr.drew .i64 [st,ca] 3
    clear hK K hH
    have hH:=hH2
    clear hH2
    try go_simp
    refine Ae (rs:=[2]) (by kernel_rfl) (by simp) ?_
    refine(Aa rfl (fun K hK=>?_) Ab)
    go_simp
    refine(CD.out _ hH).mono ?_
    rintro e W1 ⟨rfl,hk⟩
    have hN:=hN.below hk
    go_wp2_with fail
    refine hK.out _ _ (hH.trans (hk.mono hH.size)) (fun hH=>?_)
    clear hK K
    try go_simp
    refine Ae (rs:=[8]) (by kernel_rfl) (by simp) ?_
    refine(Aa rfl (fun K hK=>?_) Ab)
    go_simp
    refine(CT.out _ _ hH hN).mono ?_
    rintro e W4 ⟨rfl,hk⟩
    go_wp2_with fail
    refine hK.out _ _ (hH.trans (hk.mono hH.size)) (fun hH=>?_)
    clear hK K
    try go_simp
    refine Ae (rs:=[10]) (by kernel_rfl) (by simp) ?_
    refine(Aa rfl (fun K hK=>?_) Ab)
    go_simp
    refine(CU.out _ hH).mono ?_
    rintro e W5 ⟨rfl,hk⟩
    go_wp2_with fail
    refine hK.out _ _ (hH.trans (hk.mono hH.size)) (fun hH=>?_)
    clear hK K
    try go_simp
    refine tI 11 (sv (zx t2 (pc::zP ot tl i))) ?_;go_simp
    refine Aj (by kernel_rfl) ?_ _
    try go_simp
    go_wp2_with fail
    go_ret
    exact⟨by rw[<-HE.out];rfl,BB.out.trans (hH.mono BB.out.size)⟩
theorem ziu(x:Int)(w:World)(CD:Calls prog 19 #[.int .u32 x] w fun e w'=>e=.returned (.tuple #[.agg #[.int .i64 0,.int .i64 0,.int .i64 0,.int .i64 0,.int .i32 0],.bool false])/\Below w.heap.size w w'):
  Calls prog 47 #[.int .u32 x] w fun e w'=>e=.returned (sv [110,111])/\Below w.heap.size w w':=by
 go_enter func47,ntmps47
 go_wp2_with(go_at_call 19;refine CD.mono ?_;rintro e w1 ⟨rfl,hb1⟩)
 go_ret
 exact⟨rfl,hb1.alloc hb1.size _⟩
theorem zf8(x o r a b m:Int)(w:World)(hp:Pow w)(o0:0<=o/\o<=4294967295)(r0:0<=r/\r<=4294967295)(a0:0<=a/\a<=4294967295)(b0:0<=b/\b<=4294967295)(m0:-2147483648<=m)(m1:m<=2147483647)
  (CD:Calls prog 19 #[.int .u32 x] w fun e w'=>e=.returned (.tuple #[.agg #[.int .i64 o,.int .i64 r,.int .i64 a,.int .i64 b,.int .i32 m],.bool true])/\Below w.heap.size w w'):
  Calls prog 47 #[.int .u32 x] w fun e w'=>e=.returned (sv (zx (zx [105,115] [o,r,a,b]) [m%4294967296]))/\Below w.heap.size w w':=by
 have HP:Hid (Pow w):=hp
 have HR:Hid ((0<=o/\o<=4294967295)/\(0<=r/\r<=4294967295)/\(0<=a/\a<=4294967295)/\(0<=b/\b<=4294967295)):=⟨o0,r0,a0,b0⟩
 have HW:IntKind.u32.wrap m=m%4294967296:=by simp[AA,AB,Aw]
 clear hp o0 r0 a0 b0
 go_enter func47,ntmps47
 go_upto_region 4 with(go_at_call 19;refine CD.mono ?_;rintro e w1 ⟨rfl,hb1⟩)
 refine zj (Φ:=fun W=>Az _ _ _ _ W) ?_
 intro V eV hb
 have HB:Hid (Below w.heap.size w V):=hb1.trans (hb.mono hb1.size)
 have k0:V.cell? ⟨w1.heap.size,0,none⟩=some (.int .i64 o):=by rw[Ag _ _ _ _ _ _ eV];rfl
 have k1:V.cell? ⟨w1.heap.size,1,none⟩=some (.int .i64 r):=by rw[Ag _ _ _ _ _ _ eV];rfl
 have k2:V.cell? ⟨w1.heap.size,2,none⟩=some (.int .i64 a):=by rw[Ag _ _ _ _ _ _ eV];rfl
 have k3:V.cell? ⟨w1.heap.size,3,none⟩=some (.int .i64 b):=by rw[Ag _ _ _ _ _ _ eV];rfl
 have k4:V.cell? ⟨w1.heap.size,4,none⟩=some (.int .i32 m):=by rw[Ag _ _ _ _ _ _ eV];rfl
 have hqV:w1.heap.size<V.heap.size:=(Ah.1 eV).1
 obtain⟨q,hq⟩:∃q,q=w1.heap.size:=⟨_,rfl⟩
 rw[<-hq]at k0 k1 k2 k3 k4 hqV⊢
 clear eV hb hb1 hq CD
 obtain⟨u,hu⟩:∃u,u=m%4294967296:=⟨_,rfl⟩
 have CT:Hid (∀W v,Below V.heap.size V W->qM W v .i64 [o,r,a,b]->Calls prog 73 #[sv [105,115],v] W fun e w'=>e=.returned (sv (zx [105,115] [o,r,a,b]))/\Below W.heap.size W w'):=fun W v hW hv=>xl [105,115] [o,r,a,b] v W ((HP.out.below HB.out).below hW) (by decide) (by simp) (fun x hx=>by have:=HR.out;simp at hx;omega) hv
 have CU:Hid (∀W v,Below V.heap.size V W->qM W v .u32 [u]->Calls prog 75 #[sv (zx [105,115] [o,r,a,b]),v] W fun e w'=>e=.returned (sv (zx (zx [105,115] [o,r,a,b]) [u]))/\Below W.heap.size W w'):=fun W v hW hv=>zag (zx [105,115] [o,r,a,b]) [u] v W ((HP.out.below HB.out).below hW) (by
   have h2:=ju [105,115] [o,r,a,b] (fun x hx=>by have:=HR.out;simp at hx;omega)
   simp at h2
   omega) (by simp) (fun x hx=>by simp at hx;omega) hv
 obtain⟨t2,ht2⟩:∃t2,t2=zx [105,115] [o,r,a,b]:=⟨_,rfl⟩
 rw[<-ht2]at CT CU
 have HE:Hid (t2=zx [105,115] [o,r,a,b]/\u=m%4294967296):=⟨ht2,hu⟩
 rw[<-hu]at HW
 clear ht2 hu
 refine Ai (S:=fun w'=>Below V.heap.size V w') (by kernel_rfl) ((Ad _ _).drew) (fun hH=>?_)
 generalize V.drew=W0 at hH⊢
 refine tI 0 (.pointer (some ⟨q,0,none⟩)) ?_;go_simp
 refine tH 1 (.int .i64 o) rfl (Or.inl ⟨by rfl,by intro wz hSw;have hc:=(hSw.cell (p:=⟨q,0,none⟩) hqV).trans k0;go_simp⟩) hH ?_;go_simp
 refine tI 2 (.pointer (some ⟨q,1,none⟩)) ?_;go_simp
 refine tH 3 (.int .i64 r) rfl (Or.inl ⟨by rfl,by intro wz hSw;have hc:=(hSw.cell (p:=⟨q,1,none⟩) hqV).trans k1;go_simp⟩) hH ?_;go_simp
 refine tI 4 (.pointer (some ⟨q,2,none⟩)) ?_;go_simp
 refine tH 5 (.int .i64 a) rfl (Or.inl ⟨by rfl,by intro wz hSw;have hc:=(hSw.cell (p:=⟨q,2,none⟩) hqV).trans k2;go_simp⟩) hH ?_;go_simp
 refine tI 6 (.pointer (some ⟨q,3,none⟩)) ?_;go_simp
 refine tH 7 (.int .i64 b) rfl (Or.inl ⟨by rfl,by intro wz hSw;have hc:=(hSw.cell (p:=⟨q,3,none⟩) hqV).trans k3;go_simp⟩) hH ?_;go_simp
 refine tI 10 (.pointer (some ⟨q,4,none⟩)) ?_;go_simp
 refine tH 11 (.int .i32 m) rfl (Or.inl ⟨by rfl,by intro wz hSw;have hc:=(hSw.cell (p:=⟨q,4,none⟩) hqV).trans k4;go_simp⟩) hH ?_;go_simp
 refine tI 12 (.int .u32 u) ?_;go_simp
 refine Ae (rs:=[8,13]) (by kernel_rfl) (by simp) ?_
 refine(Aa rfl (fun K hK=>?_) (Aa rfl (fun K hK=>?_) Ab))
 ·go_simp
  refine hK.out _ _ (hH.alloc hH.size _) (fun hH2=>?_)
  have hI:qM (W0.alloc (.cells #[Ac .i64 o,Ac .i64 r,Ac .i64 a,Ac .i64 b] 3)) (.slice (some ⟨W0.heap.size,0,none⟩) 4 4) .i64 [o,r,a,b]:=jv W0 .i64 [o,r,a,b] 3
  have hg:Below W0.heap.size W0 (W0.alloc (.cells #[Ac .i64 o,Ac .i64 r,Ac .i64 a,Ac .i64 b] 3)):=(Ad _ _).alloc (Af _) _
  clear hK K hH
  have hH:=hH2
  clear hH2
  try go_simp
  generalize (W0.alloc (.cells #[Ac .i64 o,Ac .i64 r,Ac .i64 a,Ac .i64 b] 3))=A1 at hI hg hH⊢
  clear hg
  refine Ae (rs:=[9,13]) (by kernel_rfl) (by simp) ?_
  refine(Aa rfl (fun K hK=>?_) (Aa rfl (fun K hK=>?_) Ab))
  ·go_simp
   refine(CT.out _ _ hH hI).mono ?_
   rintro e W2 ⟨rfl,hk⟩
   go_wp2_with fail
   refine hK.out _ _ (hH.trans (hk.mono hH.size)) (fun hH=>?_)
   clear hK K
   try go_simp
   refine Ae (rs:=[13]) (by kernel_rfl) (by simp) ?_
   refine(Aa rfl (fun K hK=>?_) Ab)
   go_simp
   refine hK.out _ _ (hH.alloc hH.size _) (fun hH2=>?_)
   have hU:qM (W2.alloc (.cells #[Ac .u32 u] 24)) (.slice (some ⟨W2.heap.size,0,none⟩) 1 1) .u32 [u]:=jv W2 .u32 [u] 24
   have hg:Below W2.heap.size W2 (W2.alloc (.cells #[Ac .u32 u] 24)):=(Ad _ _).alloc (Af _) _
   clear hK K hH
   have hH:=hH2
   clear hH2
   try go_simp
   generalize (W2.alloc (.cells #[Ac .u32 u] 24))=A3 at hU hg hH⊢
   clear hg
   refine Ae (rs:=[14]) (by kernel_rfl) (by simp) ?_
   refine(Aa rfl (fun K hK=>?_) Ab)
   go_simp
   refine(CU.out _ _ hH hU).mono ?_
   rintro e W4 ⟨rfl,hk⟩
   go_wp2_with fail
   refine hK.out _ _ (hH.trans (hk.mono hH.size)) (fun hH=>?_)
   clear hK K
   try go_simp
   refine tI 15 (sv (zx t2 [u])) ?_;go_simp
   refine Aj (by kernel_rfl) ?_ _
   try go_simp
   go_wp2_with fail
   go_ret
   exact⟨by rw[<-HE.out.1,<-HE.out.2];rfl,HB.out.trans (hH.mono HB.out.size)⟩
  ·go_simp
   refine hK.out _ _ (hH.alloc hH.size _) (fun hH2=>?_)
   have hU:qM (A1.alloc (.cells #[Ac .u32 u] 24)) (.slice (some ⟨A1.heap.size,0,none⟩) 1 1) .u32 [u]:=jv A1 .u32 [u] 24
   have hg:Below A1.heap.size A1 (A1.alloc (.cells #[Ac .u32 u] 24)):=(Ad _ _).alloc (Af _) _
   clear hK K hH
   have hH:=hH2
   clear hH2
   try go_simp
   generalize (A1.alloc (.cells #[Ac .u32 u] 24))=A2 at hU hg hH⊢
   have hI:=hI.below hg
   clear hg
   refine Ae (rs:=[9]) (by kernel_rfl) (by simp) ?_
   refine(Aa rfl (fun K hK=>?_) Ab)
   go_simp
   refine(CT.out _ _ hH hI).mono ?_
   rintro e W3 ⟨rfl,hk⟩
   have hU:=hU.below hk
   go_wp2_with fail
   refine hK.out _ _ (hH.trans (hk.mono hH.size)) (fun hH=>?_)
   clear hK K
   try go_simp
   refine Ae (rs:=[14]) (by kernel_rfl) (by simp) ?_
   refine(Aa rfl (fun K hK=>?_) Ab)
   go_simp
   refine(CU.out _ _ hH hU).mono ?_
   rintro e W4 ⟨rfl,hk⟩
   go_wp2_with fail
   refine hK.out _ _ (hH.trans (hk.mono hH.size)) (fun hH=>?_)
   clear hK K
   try go_simp
   refine tI 15 (sv (zx t2 [u])) ?_;go_simp
   refine Aj (by kernel_rfl) ?_ _
   try go_simp
   go_wp2_with fail
   go_ret
   exact⟨by rw[<-HE.out.1,<-HE.out.2];rfl,HB.out.trans (hH.mono HB.out.size)⟩
 ·go_simp
  refine hK.out _ _ (hH.alloc hH.size _) (fun hH2=>?_)
  have hU:qM (W0.alloc (.cells #[Ac .u32 u] 24)) (.slice (some ⟨W0.heap.size,0,none⟩) 1 1) .u32 [u]:=jv W0 .u32 [u] 24
  have hg:Below W0.heap.size W0 (W0.alloc (.cells #[Ac .u32 u] 24)):=(Ad _ _).alloc (Af _) _
  clear hK K hH
  have hH:=hH2
  clear hH2
  try go_simp
  generalize (W0.alloc (.cells #[Ac .u32 u] 24))=A1 at hU hg hH⊢
  clear hg
  refine Ae (rs:=[8]) (by kernel_rfl) (by simp) ?_
  refine(Aa rfl (fun K hK=>?_) Ab)
  go_simp
  refine hK.out _ _ (hH.alloc hH.size _) (fun hH2=>?_)
  have hI:qM (A1.alloc (.cells #[Ac .i64 o,Ac .i64 r,Ac .i64 a,Ac .i64 b] 3)) (.slice (some ⟨A1.heap.size,0,none⟩) 4 4) .i64 [o,r,a,b]:=jv A1 .i64 [o,r,a,b] 3
  have hg:Below A1.heap.size A1 (A1.alloc (.cells #[Ac .i64 o,Ac .i64 r,Ac .i64 a,Ac .i64 b] 3)):=(Ad _ _).alloc (Af _) _
  clear hK K hH
  have hH:=hH2
  clear hH2
  try go_simp
  generalize (A1.alloc (.cells #[Ac .i64 o,Ac .i64 r,Ac .i64 a,Ac .i64 b] 3))=A2 at hI hg hH⊢
  have hU:=hU.below hg
  clear hg
  refine Ae (rs:=[9]) (by kernel_rfl) (by simp) ?_
  refine(Aa rfl (fun K hK=>?_) Ab)
  go_simp
  refine(CT.out _ _ hH hI).mono ?_
  rintro e W3 ⟨rfl,hk⟩
  have hU:=hU.below hk
  go_wp2_with fail
  refine hK.out _ _ (hH.trans (hk.mono hH.size)) (fun hH=>?_)
  clear hK K
  try go_simp
  refine Ae (rs:=[14]) (by kernel_rfl) (by simp) ?_
  refine(Aa rfl (fun K hK=>?_) Ab)
  go_simp
  refine(CU.out _ _ hH hU).mono ?_
  rintro e W4 ⟨rfl,hk⟩
  go_wp2_with fail
  refine hK.out _ _ (hH.trans (hk.mono hH.size)) (fun hH=>?_)
  clear hK K
  try go_simp
  refine tI 15 (sv (zx t2 [u])) ?_;go_simp
  refine Aj (by kernel_rfl) ?_ _
  try go_simp
  go_wp2_with fail
  go_ret
  exact⟨by rw[<-HE.out.1,<-HE.out.2];rfl,HB.out.trans (hH.mono HB.out.size)⟩
theorem PTo.frm{T:TypeId}{N b:Nat}{w w':World}{p':Ps}{M C:Value}(h:PTo T N b w M C w' p'):Frm (Mine b M C) w w':=by
 obtain⟨_,_,_,hf,_⟩:=h
 exact hf
theorem zcE{n:Nat}(h:n<4294967296):IntKind.i64.wrap (n:Int)=(n:Int):=by
 simp[AA,AB,Aw]
 omega
def Cu(w:World)(l x y:List UInt8)(d:Bool):Prop:=∀W,Below w.heap.size w W->Calls prog 20 #[sv l,.string ⟨#[32]⟩] W fun e w'=>e=.returned (.tuple #[sv x,sv y,.bool d])/\Below W.heap.size W w'
def Nu(w:World)(b:Nat)(M C:Value)(y:List UInt8)(d:Bool)(ns:List Nat):Prop:=∀W,Below w.heap.size w W->Calls prog 41 #[sv y,.bool d] W fun e w'=>(∃v,e=.returned (.tuple #[v,.bool true])/\Args w' b M C v ns)/\Below W.heap.size W w'
abbrev vZ(N b:Nat)(w:World)(M C:Value)(l t:List UInt8)(q:Ps):Prop:=Calls prog 22 #[.pointer (some ⟨b,0,none⟩),sv l] w fun e w'=>e=.returned (sv t)/\PTo 82 N b w M C w' q
def NoW(x:List UInt8)(ns:List Nat):Prop:=(x=[112,99]/\((ns.length:Int)==1)=false)\/(x=[115,101,116]/\((ns.length:Int)==2)=false)\/(x=[99,111,114,101]/\((ns.length:Int)==3)=false)\/(x=[109,111,100,101,108]/\((ns.length:Int)==1)=false)\/(x=[114,117,110]/\((ns.length:Int)==1)=false)\/(x=[119,104,97,116]/\((ns.length:Int)==1)=false)\/((x==[119,111,114,100,115])=false/\(x==[112,99])=false/\(x==[115,101,116])=false/\(x==[99,111,114,101])=false/\(x==[99,104,111,111,115,101])=false/\(x==[109,111,100,101,108])=false/\(x==[114,117,110])=false/\(x==[119,104,97,116])=false)
theorem yR{N b:Nat}{p:Ps}{M C:Value}(w:World)(h:PW 82 N w b p M C)(l x y:List UInt8)(d:Bool)(ns:List Nat)(hx:NoW x ns)(C1:Hid (Cu w l x y d))(C2:Hid (Nu w b M C y d ns)):vZ N b w M C l (jz) (p):=by
 have HH:Hid (PW 82 N w b p M C):=h
 clear h
 rcases hx with⟨rfl,hf⟩|⟨rfl,hf⟩|⟨rfl,hf⟩|⟨rfl,hf⟩|⟨rfl,hf⟩|⟨rfl,hf⟩|⟨e0,e1,e2,e3,e4,e5,e6,e7⟩
 all_goals
  go_enter func22,ntmps22
  go_upto_region 5 with(first|(go_at_call 20;refine(C1.out _ (Ad _ _)).mono ?_;rintro e w1 ⟨rfl,hb1⟩)|(go_at_call 41;refine(C2.out _ hb1).mono ?_;rintro e w2 ⟨⟨v,rfl,ha⟩,hb2⟩))
  have B2:Hid (Below w.heap.size w w2):=hb1.trans (hb2.mono hb1.size)
  have P2:Hid (PW 82 N w2 b p M C):=HH.out.below B2.out
  have A2:Hid (Args w2 b M C v ns):=ha
  clear hb1 hb2 ha C1 C2 HH
  obtain⟨a,c,rfl,hcell⟩:=A2.out
  clear hcell
  go_wp2_with fail
  go_ret
  exact⟨rfl,PTo.ahead B2.out (PTo.same P2.out (Ad _ _))⟩
theorem zah{N b:Nat}{p:Ps}{M C:Value}(w:World)(h:PW 82 N w b p M C)(l y:List UInt8)(d:Bool)(ns:List Nat)(t:List UInt8)(q:Ps)(CW:Hid (∀W v,Below w.heap.size w W->Args W b M C v ns->Calls prog 42 #[.pointer (some ⟨b,0,none⟩),v] W fun e w'=>e=.returned (sv t)/\PTo 82 N b W M C w' q))(C1:Hid (Cu w l [119,111,114,100,115] y d))(C2:Hid (Nu w b M C y d ns)):vZ N b w M C l (t) (q):=by
 have HH:Hid (PW 82 N w b p M C):=h
 clear h
 go_enter func22,ntmps22
 go_upto_region 5 with(first|(go_at_call 20;refine(C1.out _ (Ad _ _)).mono ?_;rintro e w1 ⟨rfl,hb1⟩)|(go_at_call 41;refine(C2.out _ hb1).mono ?_;rintro e w2 ⟨⟨v,rfl,ha⟩,hb2⟩))
 have B2:Hid (Below w.heap.size w w2):=hb1.trans (hb2.mono hb1.size)
 have P2:Hid (PW 82 N w2 b p M C):=HH.out.below B2.out
 have A2:Hid (Args w2 b M C v ns):=ha
 clear hb1 hb2 ha C1 C2 HH
 have CW:=CW.out w2 v B2.out A2.out
 obtain⟨a,c,rfl,hcell⟩:=A2.out
 clear hcell
 go_wp2_with(go_at_call 42;refine CW.mono ?_;rintro e w3 ⟨rfl,ht⟩)
 go_ret
 exact⟨rfl,PTo.ahead B2.out ht⟩
theorem zcF{N b:Nat}{p:Ps}{M C:Value}(w:World)(h:PW 82 N w b p M C)(l y:List UInt8)(d:Bool)(ns:List Nat)(t:List UInt8)(q:Ps)(CW:Hid (∀W v,Below w.heap.size w W->Args W b M C v ns->Calls prog 45 #[.pointer (some ⟨b,0,none⟩),v] W fun e w'=>e=.returned (sv t)/\PTo 82 N b W M C w' q))(C1:Hid (Cu w l [99,104,111,111,115,101] y d))(C2:Hid (Nu w b M C y d ns)):vZ N b w M C l (t) (q):=by
 have HH:Hid (PW 82 N w b p M C):=h
 clear h
 go_enter func22,ntmps22
 go_upto_region 5 with(first|(go_at_call 20;refine(C1.out _ (Ad _ _)).mono ?_;rintro e w1 ⟨rfl,hb1⟩)|(go_at_call 41;refine(C2.out _ hb1).mono ?_;rintro e w2 ⟨⟨v,rfl,ha⟩,hb2⟩))
 have B2:Hid (Below w.heap.size w w2):=hb1.trans (hb2.mono hb1.size)
 have P2:Hid (PW 82 N w2 b p M C):=HH.out.below B2.out
 have A2:Hid (Args w2 b M C v ns):=ha
 clear hb1 hb2 ha C1 C2 HH
 have CW:=CW.out w2 v B2.out A2.out
 obtain⟨a,c,rfl,hcell⟩:=A2.out
 clear hcell
 go_wp2_with(go_at_call 45;refine CW.mono ?_;rintro e w3 ⟨rfl,ht⟩)
 go_ret
 exact⟨rfl,PTo.ahead B2.out ht⟩
theorem zkP{N b:Nat}{p:Ps}{M C:Value}(w:World)(h:PW 82 N w b p M C)(l y:List UInt8)(d:Bool)(n:Nat)(hn:n<4294967296)(C1:Hid (Cu w l [112,99] y d))(C2:Hid (Nu w b M C y d [n])):vZ N b w M C l (tOk) ({p with pc:=n}):=by
 have HH:Hid (PW 82 N w b p M C):=h
 clear h
 go_enter func22,ntmps22
 go_upto_region 5 with(first|(go_at_call 20;refine(C1.out _ (Ad _ _)).mono ?_;rintro e w1 ⟨rfl,hb1⟩)|(go_at_call 41;refine(C2.out _ hb1).mono ?_;rintro e w2 ⟨⟨v,rfl,ha⟩,hb2⟩))
 have B2:Hid (Below w.heap.size w w2):=hb1.trans (hb2.mono hb1.size)
 have P2:Hid (PW 82 N w2 b p M C):=HH.out.below B2.out
 have A2:Hid (Args w2 b M C v [n]):=ha
 clear hb1 hb2 ha C1 C2 HH
 obtain⟨a,c,rfl,hcell⟩:=A2.out
 obtain⟨g,o,rfl,hgw,hgm,hcl⟩:=hcell (by simp)
 have c0:w2.cell? ⟨g,o,none⟩=some (.int .u32 (n:Int)):=hcl 0 n rfl
 clear hcl hcell
 have k32:w2.cell? ⟨b,32,none⟩=some (.int .u32 p.pc):=P2.out.cell 32 (by omega)
 have f32:w2.frozen? ⟨b,32,none⟩=false:=P2.out.fro 32
 go_wp2_with fail
 go_ret
 refine⟨rfl,PTo.ahead B2.out (PTo.put (w':=w2) P2.out (by decide) (by decide) 32 _ _ rfl rfl fun j hj=>?_)⟩
 unfold patD
 by_cases e:j=32<;>simp[e]
theorem zf9{N b:Nat}{p:Ps}{M C:Value}(w:World)(h:PW 82 N w b p M C)(l y:List UInt8)(d:Bool)(n:Nat)(hn:n<4294967296)(t:List UInt8)(CD:∀W,Below w.heap.size w W->Calls prog 47 #[.int .u32 (n:Int)] W fun e w'=>e=.returned (sv t)/\Below W.heap.size W w')(C1:Hid (Cu w l [119,104,97,116] y d))(C2:Hid (Nu w b M C y d [n])):vZ N b w M C l (t) (p):=by
 have HH:Hid (PW 82 N w b p M C):=h
 clear h
 go_enter func22,ntmps22
 go_upto_region 5 with(first|(go_at_call 20;refine(C1.out _ (Ad _ _)).mono ?_;rintro e w1 ⟨rfl,hb1⟩)|(go_at_call 41;refine(C2.out _ hb1).mono ?_;rintro e w2 ⟨⟨v,rfl,ha⟩,hb2⟩))
 have B2:Hid (Below w.heap.size w w2):=hb1.trans (hb2.mono hb1.size)
 have P2:Hid (PW 82 N w2 b p M C):=HH.out.below B2.out
 have A2:Hid (Args w2 b M C v [n]):=ha
 clear hb1 hb2 ha C1 C2 HH
 obtain⟨a,c,rfl,hcell⟩:=A2.out
 obtain⟨g,o,rfl,hgw,hgm,hcl⟩:=hcell (by simp)
 have c0:w2.cell? ⟨g,o,none⟩=some (.int .u32 (n:Int)):=hcl 0 n rfl
 clear hcl hcell
 have CW:=CD w2 B2.out
 clear CD
 go_wp2_with(go_at_call 47;refine CW.mono ?_;rintro e w3 ⟨rfl,hb3⟩)
 go_ret
 exact⟨rfl,PTo.ahead B2.out (PTo.same P2.out hb3)⟩
theorem zdV{N b:Nat}{p:Ps}{M C:Value}(w:World)(h:PW 82 N w b p M C)(l y:List UInt8)(d:Bool)(r n:Nat)(h0:r<4294967296)(h1:n<4294967296)(t:List UInt8)(q:Ps)(CW:Hid (∀W,Below w.heap.size w W->Calls prog 43 #[.pointer (some ⟨b,0,none⟩),.int .u32 (r:Int),.int .u32 (n:Int)] W fun e w'=>e=.returned (sv t)/\PTo 82 N b W M C w' q))(C1:Hid (Cu w l [115,101,116] y d))(C2:Hid (Nu w b M C y d [r,n])):vZ N b w M C l (t) (q):=by
 have HH:Hid (PW 82 N w b p M C):=h
 clear h
 go_enter func22,ntmps22
 go_upto_region 5 with(first|(go_at_call 20;refine(C1.out _ (Ad _ _)).mono ?_;rintro e w1 ⟨rfl,hb1⟩)|(go_at_call 41;refine(C2.out _ hb1).mono ?_;rintro e w2 ⟨⟨v,rfl,ha⟩,hb2⟩))
 have B2:Hid (Below w.heap.size w w2):=hb1.trans (hb2.mono hb1.size)
 have P2:Hid (PW 82 N w2 b p M C):=HH.out.below B2.out
 have A2:Hid (Args w2 b M C v [r,n]):=ha
 clear hb1 hb2 ha C1 C2 HH
 obtain⟨a,c,rfl,hcell⟩:=A2.out
 obtain⟨g,o,rfl,hgw,hgm,hcl⟩:=hcell (by simp)
 have c0:w2.cell? ⟨g,o,none⟩=some (.int .u32 (r:Int)):=hcl 0 r rfl
 have c1:w2.cell? ⟨g,o+1,none⟩=some (.int .u32 (n:Int)):=hcl 1 n rfl
 have x0:=zcE h0
 have x1:=zcE h1
 clear hcl hcell A2
 go_upto_region 11 with fail
 refine Ai (S:=fun w'=>Frm (Mine b M C) w2 w') (by kernel_rfl) (Frm.of ((Ad _ _).drew)) (fun hH=>?_)
 have hB0:Below w2.heap.size w2 w2.drew:=(Ad _ _).drew
 generalize w2.drew=W0 at hH hB0⊢
 refine tI 0 (.pointer (some ⟨b,0,none⟩)) ?_;go_simp
 refine tI 1 (.slice (some ⟨g,o,none⟩) 2 c) ?_;go_simp
 refine tI 2 (.pointer (some ⟨g,o,none⟩)) ?_;go_simp
 refine tH 3 (.int .u32 (r:Int)) rfl (Or.inl ⟨by rfl,by intro wz hSw;have hc:=(qB (i:=o) (hSw.block g hgw hgm)).trans c0;go_simp⟩) hH ?_;go_simp
 refine tI 4 (.slice (some ⟨g,o,none⟩) 2 c) ?_;go_simp
 refine tI 5 (.pointer (some ⟨g,o+1,none⟩)) ?_;go_simp
 refine tH 6 (.int .u32 (n:Int)) rfl (Or.inl ⟨by rfl,by intro wz hSw;have hc:=(qB (i:=o+1) (hSw.block g hgw hgm)).trans c1;go_simp⟩) hH ?_;go_simp
 refine Ae (rs:=[7]) (by kernel_rfl) (by simp) ?_
 refine(Aa rfl (fun K hK=>?_) Ab)
 go_simp
 refine(CW.out _ (B2.out.trans (hB0.mono B2.out.size))).mono ?_
 rintro e w3 ⟨rfl,ht⟩
 have ht:Hid (PTo 82 N b W0 M C w3 _):=ht
 go_wp2_with fail
 refine hK.out _ _ (hH.trans ht.out.frm fun i hi=>.inl hi) (fun hH=>?_)
 clear hK K
 try go_simp
 refine tI 8 (sv t) ?_;go_simp
 refine Aj (by kernel_rfl) ?_ _
 try go_simp
 go_wp2_with fail
 go_ret
 exact⟨rfl,PTo.ahead (B2.out.trans (hB0.mono B2.out.size)) ht.out⟩
theorem zbx{N b:Nat}{p:Ps}{M C:Value}(w:World)(h:PW 82 N w b p M C)(l y:List UInt8)(d:Bool)(x z u:Nat)(h0:x<4294967296)(h1:z<4294967296)(h2:u<4294967296)(t:List UInt8)(q:Ps)(CW:Hid (∀W,Below w.heap.size w W->Calls prog 44 #[.pointer (some ⟨b,0,none⟩),.agg #[.int .i64 (x:Int),.int .i64 (z:Int),.int .i64 (u:Int)]] W fun e w'=>e=.returned (sv t)/\PTo 82 N b W M C w' q))(C1:Hid (Cu w l [99,111,114,101] y d))(C2:Hid (Nu w b M C y d [x,z,u])):vZ N b w M C l (t) (q):=by
 have HH:Hid (PW 82 N w b p M C):=h
 clear h
 go_enter func22,ntmps22
 go_upto_region 5 with(first|(go_at_call 20;refine(C1.out _ (Ad _ _)).mono ?_;rintro e w1 ⟨rfl,hb1⟩)|(go_at_call 41;refine(C2.out _ hb1).mono ?_;rintro e w2 ⟨⟨v,rfl,ha⟩,hb2⟩))
 have B2:Hid (Below w.heap.size w w2):=hb1.trans (hb2.mono hb1.size)
 have P2:Hid (PW 82 N w2 b p M C):=HH.out.below B2.out
 have A2:Hid (Args w2 b M C v [x,z,u]):=ha
 clear hb1 hb2 ha C1 C2 HH
 obtain⟨a,c,rfl,hcell⟩:=A2.out
 obtain⟨g,o,rfl,hgw,hgm,hcl⟩:=hcell (by simp)
 have c0:w2.cell? ⟨g,o,none⟩=some (.int .u32 (x:Int)):=hcl 0 x rfl
 have c1:w2.cell? ⟨g,o+1,none⟩=some (.int .u32 (z:Int)):=hcl 1 z rfl
 have c2:w2.cell? ⟨g,o+2,none⟩=some (.int .u32 (u:Int)):=hcl 2 u rfl
 have x0:=zcE h0
 have x1:=zcE h1
 have x2:=zcE h2
 clear hcl hcell A2
 go_upto_region 13 with fail
 refine Ai (S:=fun w'=>Frm (Mine b M C) w2 w') (by kernel_rfl) (Frm.of ((Ad _ _).drew)) (fun hH=>?_)
 have hB0:Below w2.heap.size w2 w2.drew:=(Ad _ _).drew
 generalize w2.drew=W0 at hH hB0⊢
 refine tI 0 (.pointer (some ⟨b,0,none⟩)) ?_;go_simp
 refine tI 1 (.slice (some ⟨g,o,none⟩) 3 c) ?_;go_simp
 refine tI 2 (.pointer (some ⟨g,o,none⟩)) ?_;go_simp
 refine tH 3 (.int .u32 (x:Int)) rfl (Or.inl ⟨by rfl,by intro wz hSw;have hc:=(qB (i:=o) (hSw.block g hgw hgm)).trans c0;go_simp⟩) hH ?_;go_simp
 refine tI 4 (.int .i64 (x:Int)) ?_;go_simp
 refine tI 5 (.slice (some ⟨g,o,none⟩) 3 c) ?_;go_simp
 refine tI 6 (.pointer (some ⟨g,o+1,none⟩)) ?_;go_simp
 refine tH 7 (.int .u32 (z:Int)) rfl (Or.inl ⟨by rfl,by intro wz hSw;have hc:=(qB (i:=o+1) (hSw.block g hgw hgm)).trans c1;go_simp⟩) hH ?_;go_simp
 refine tI 8 (.int .i64 (z:Int)) ?_;go_simp
 refine tI 9 (.slice (some ⟨g,o,none⟩) 3 c) ?_;go_simp
 refine tI 10 (.pointer (some ⟨g,o+2,none⟩)) ?_;go_simp
 refine tH 11 (.int .u32 (u:Int)) rfl (Or.inl ⟨by rfl,by intro wz hSw;have hc:=(qB (i:=o+2) (hSw.block g hgw hgm)).trans c2;go_simp⟩) hH ?_;go_simp
 refine tI 12 (.int .i64 (u:Int)) ?_;go_simp
 refine tI 13 (.agg #[.int .i64 (x:Int),.int .i64 (z:Int),.int .i64 (u:Int)]) ?_;go_simp
 refine Ae (rs:=[14]) (by kernel_rfl) (by simp) ?_
 refine(Aa rfl (fun K hK=>?_) Ab)
 go_simp
 refine(CW.out _ (B2.out.trans (hB0.mono B2.out.size))).mono ?_
 rintro e w3 ⟨rfl,ht⟩
 have ht:Hid (PTo 82 N b W0 M C w3 _):=ht
 go_wp2_with fail
 refine hK.out _ _ (hH.trans ht.out.frm fun i hi=>.inl hi) (fun hH=>?_)
 clear hK K
 try go_simp
 refine tI 15 (sv t) ?_;go_simp
 refine Aj (by kernel_rfl) ?_ _
 try go_simp
 go_wp2_with fail
 go_ret
 exact⟨rfl,PTo.ahead (B2.out.trans (hB0.mono B2.out.size)) ht.out⟩
theorem zga{N b:Nat}{p:Ps}{M C:Value}(w:World)(h:PW 82 N w b p M C)(l x y:List UInt8)(d:Bool)(C1:Hid (Cu w l x y d))
  (C2:Hid (∀W,Below w.heap.size w W->Calls prog 41 #[sv y,.bool d] W fun e w'=>e=.returned (.tuple #[.slice none 0 0,.bool false])/\Below W.heap.size W w')):vZ N b w M C l jz p:=by
 have HH:Hid (PW 82 N w b p M C):=h
 clear h
 go_enter func22,ntmps22
 go_wp2_with(first|(go_at_call 20;refine(C1.out _ (Ad _ _)).mono ?_;rintro e w1 ⟨rfl,hb1⟩)|(go_at_call 41;refine(C2.out _ hb1).mono ?_;rintro e w2 ⟨rfl,hb2⟩))
 go_ret
 exact⟨rfl,PTo.same HH.out (hb1.trans (hb2.mono hb1.size))⟩
theorem zc{N:Nat}{w w':World}(h:Below N w w'){b:Nat}(hb:N<=b)(cs:Array Value):Below N w (w'.setRow b cs):=
 ⟨h.os,h.tape,h.output,by simpa using h.size,fun k hk=>(setRow_other w' b k cs (by omega)).trans (h.block k hk)⟩
theorem zdW{o:Ou}(ho:OuOk o)(v:Value)(H:Array Value)(w:World)(hp:Pow w)(ht:Tells w v H o):
  Calls prog 46 #[v,.agg H,.int .i64 o.er] w fun e w'=>e=.returned (sv (ranL o))/\Below w.heap.size w w':=by
 obtain⟨er,many,st,ca,pc,told⟩:=o
 obtain⟨h1,h2,h3,h4,h5,h6,h7⟩:=ho
 by_cases h0:er=0
 ·subst h0
  obtain⟨ot,tl,hc,ht2,a,b,c⟩:=ht.yes rfl
  have ht2:told=zP ot tl many:=ht2
  subst ht2
  exact zit v H pc st ca many ot tl ht.size a b c h2 h5 h3 h4 h6 w hp hc
 ·have e:ranL ⟨er,many,st,ca,pc,told⟩=zx [98,97,100] [er]:=if_neg h0
  rw[e]
  exact zis v H er ht.size (by simpa using h0) h1.1 h1.2 w hp
theorem Tells.set{w:World}{v:Value}{H:Array Value}{o:Ou}(h:Tells w v H o){z:Nat}{cs:Array Value}{T:TypeId}{fr:Nat×Nat}(hz:w.heap[z]?=some (.cells cs T fr))(hk:∀(i:Nat) (bb:Bool),cs[i]?≠some (Value.bool bb))(X:Array Value):Tells (w.setRow z X) v H o:=
 ⟨h.size,h.one,h.sl,fun h0=>by
  obtain⟨ot,tl,⟨a,c,g,hv,hc,hp,hg,h1⟩,r⟩:=h.yes h0
  refine⟨ot,tl,⟨a,c,g,hv,hc,fun hn=>?_,hg,h1⟩,r⟩
  obtain⟨b,o,ha,hlt,hcell⟩:=hp hn
  have hne:b≠z:=fun e=>by
   subst e
   have h9:=hcell 0 9 hn (by omega)
   rw[Ag _ _ _ _ _ _ hz,(hg 0 hn).1]at h9
   exact hk _ _ h9
  exact⟨b,o,ha,by simpa using hlt,fun k j hk hj=>(qB (setRow_other w z b X hne)).trans (hcell k j hk hj)⟩⟩
theorem qo:(prog.info? 32).map (·.size)=some 40:=by kernel_rfl
theorem zgb(p:Ps):(rowD (hatD p) 35).toList.length=35:=by rw[Array.length_toList,jF]
theorem PW.hart{T:TypeId}{N:Nat}{w:World}{b:Nat}{p:Ps}{M C:Value}(h:PW T N w b p M C):w.rangeAt b 0 (rowD (hatD p) 35).toList:=zmQ h.row (by omega) fun j hj=>by
 rw[Ay]
 unfold patD hatD
 by_cases h1:j<32
 ·simp[h1]
 ·by_cases h2:j=32
  ·simp[h2]
  ·simp[h1,h2,hj]
theorem zeT{N b:Nat}{p:Ps}{M C:Value}(w:World)(h:PW 82 N w b p M C)(l y:List UInt8)(d:Bool)(n:Nat)(hn:n<4294967296)(O:Ou)(CR:Hid (∀W,Below w.heap.size w W->Calls prog 17 #[hvD p,M,.int .i64 (n:Int)] W fun e w'=>RanM w' e O/\Below W.heap.size W w'))(CA:Hid (∀W v H,Below w.heap.size w W->Tells W v H O->Calls prog 46 #[v,.agg H,.int .i64 O.er] W fun e w'=>e=.returned (sv (ranL O))/\Below W.heap.size W w'))(C1:Hid (Cu w l [109,111,100,101,108] y d))(C2:Hid (Nu w b M C y d [n])):vZ N b w M C l (ranL O) (p):=by
 have HH:Hid (PW 82 N w b p M C):=h
 clear h
 go_enter func22,ntmps22
 go_upto_region 5 with(first|(go_at_call 20;refine(C1.out _ (Ad _ _)).mono ?_;rintro e w1 ⟨rfl,hb1⟩)|(go_at_call 41;refine(C2.out _ hb1).mono ?_;rintro e w2 ⟨⟨v,rfl,ha⟩,hb2⟩))
 have B2:Hid (Below w.heap.size w w2):=hb1.trans (hb2.mono hb1.size)
 have P2:Hid (PW 82 N w2 b p M C):=HH.out.below B2.out
 have A2:Hid (Args w2 b M C v [n]):=ha
 clear hb1 hb2 ha C1 C2 HH
 obtain⟨a,c,rfl,hcell⟩:=A2.out
 obtain⟨g,o,rfl,hgw,_,hcl⟩:=hcell (by simp)
 have c0:w2.cell? ⟨g,o,none⟩=some (.int .u32 (n:Int)):=hcl 0 n rfl
 clear hcl hcell
 have wn:=zcE hn
 have HR:Hid (∀W,Below w2.heap.size w2 W->W.rangeAt b 0 (rowD (hatD p) 35).toList):=fun W hW=>(P2.out.below hW).hart
 obtain⟨L,hL⟩:∃L,L=(rowD (hatD p) 35).toList:=⟨_,rfl⟩
 have HL:Hid ((prog.info? 27).map (·.size)=some L.length):=by rw[hL,zgb];exact zp
 have CR:Hid (∀W,Below w2.heap.size w2 W->Calls prog 17 #[.agg L.toArray,M,.int .i64 (n:Int)] W fun e w'=>RanM w' e O/\Below W.heap.size W w'):=fun W hW=>by rw[hL,Array.toArray_toList];exact CR.out W (B2.out.trans (hW.mono B2.out.size))
 have CA:Hid (∀W v H,Below w2.heap.size w2 W->Tells W v H O->Calls prog 46 #[v,.agg H,.int .i64 O.er] W fun e w'=>e=.returned (sv (ranL O))/\Below W.heap.size W w'):=fun W v H hW ht=>CA.out W v H (B2.out.trans (hW.mono B2.out.size)) ht
 rw[<-hL]at HR
 have k35:w2.cell? ⟨b,35,none⟩=some M:=P2.out.cell 35 (by omega)
 have hbw:b<w2.heap.size:=P2.out.lt
 have BB:Hid (Below w.heap.size w w2/\PW 82 N w2 b p M C):=⟨B2.out,P2.out⟩
 clear hL A2 P2 B2 hn
 obtain⟨er,her⟩:∃er,er=O.er:=⟨_,rfl⟩
 have HE:Hid (er=O.er):=her
 clear her
 go_upto_region 17 with fail
 refine Ai (S:=fun w'=>Below w2.heap.size w2 w') (by kernel_rfl) ((Ad _ _).drew) (fun hH=>?_)
 generalize w2.drew=W0 at hH⊢
 refine tI 0 (.pointer (some ⟨b,0,none⟩)) ?_;go_simp
 refine tI 1 (.pointer (some ⟨b,0,none⟩)) ?_;go_simp
 refine tI 2 (.pointer (some ⟨b,0,none⟩)) ?_;go_simp
 refine tH 3 (.agg (L).toArray) rfl (yieldsIf_load_mid (by rfl) 27 _ rfl b 0 rfl (L) _ (fun wz hSw=>HR.out wz hSw) underlying27 rfl HL.out) hH ?_;go_simp
 refine tI 4 (.pointer (some ⟨b,0,none⟩)) ?_;go_simp
 refine tI 5 (.pointer (some ⟨b,0,none⟩)) ?_;go_simp
 refine tI 6 (.pointer (some ⟨b,35,none⟩)) ?_;go_simp
 refine tH 7 (M) rfl (Or.inl ⟨by rfl,by intro wz hSw;have hc:=(hSw.cell (p:=⟨b,35,none⟩) hbw).trans k35;go_simp⟩) hH ?_;go_simp
 refine tI 8 (.slice (some ⟨g,o,none⟩) 1 c) ?_;go_simp
 refine tI 9 (.pointer (some ⟨g,o,none⟩)) ?_;go_simp
 refine tH 10 (.int .u32 (n:Int)) rfl (Or.inl ⟨by rfl,by intro wz hSw;have hc:=(hSw.cell (p:=⟨g,o,none⟩) hgw).trans c0;go_simp⟩) hH ?_;go_simp
 refine tI 11 (.int .i64 (n:Int)) ?_;go_simp
 refine Ae (rs:=[12,18]) (by kernel_rfl) (by simp) ?_
 refine(Aa rfl (fun K hK=>?_) (Aa rfl (fun K hK=>?_) Ab))
 ·go_simp
  refine(CR.out _ hH).mono ?_
  rintro e W3 ⟨⟨v,H,m,rfl,ht⟩,hk⟩
  rw[<-HE.out]
  go_wp2_with fail
  refine hK.out _ _ (hH.trans (hk.mono hH.size)) (fun hH=>?_)
  clear hK K
  try go_simp
  have HT:Hid (Tells W3 v H O):=ht
  clear ht
  refine tI 13 (.tuple #[v,.agg H,m,.int .i64 er]) ?_;go_simp
  refine tI 14 (v) ?_;go_simp
  refine tI 15 (.agg H) ?_;go_simp
  refine tI 16 (m) ?_;go_simp
  refine tI 17 (.int .i64 er) ?_;go_simp
  refine Ae (rs:=[18]) (by kernel_rfl) (by simp) ?_
  refine(Aa rfl (fun K hK=>?_) Ab)
  have hzs:w2.heap.size<=W3.heap.size:=hH.size
  go_simp
  refine hK.out _ _ (hH.alloc hH.size _) (fun hH2=>?_)
  clear hK K hH
  try go_simp
  revert hH2
  refine zj (Φ:=fun W=>Below _ _ W->wpAnyH _ _ _ _ _ _ _ _ W) ?_
  intro W4 eZ hz hH
  have HT:Hid (Tells W4 v H O):=HT.out.below hz
  clear hz
  refine tI 19 (v) ?_;go_simp
  have HZ:Hid (w2.heap.size<=W3.heap.size):=hzs
  have HH:Hid (H.size=35/\H.all (·.oneCell')=true):=⟨HT.out.size,HT.out.one⟩
  refine Ae (rs:=[20]) (by kernel_rfl) (by simp) ?_
  refine(Aa rfl (fun K hK=>?_) Ab)
  rw[if_pos (by rfl)]
  refine wp_store_row 27 _ _ rfl _ _ rfl rfl 27 _ eZ (by rw[HH.out.1];exact zp) (by rw[HH.out.1];rfl) HH.out.2 ?_
  refine hK.out _ _ (zc hH HZ.out _) (fun hH=>?_)
  clear hK K
  try go_simp
  have RZ:Hid ((W4.setRow W3.heap.size H).heap[W3.heap.size]?=some (.cells H 27 (0,0))):=setRow_heap _ _ _ _ _ _ eZ
  have TZ:Hid (Tells (W4.setRow W3.heap.size H) v H O):=HT.out.set eZ (fun i bb h=>by have:=Aq h;simp at this) H
  refine tI 21 (m) ?_;go_simp
  refine tI 22 (.int .i64 er) ?_;go_simp
  refine Aj (by kernel_rfl) ?_ _
  try go_simp
  generalize W4.setRow W3.heap.size H=V at hH RZ TZ⊢
  have CE:=CA.out V v H hH TZ.out
  rw[<-HE.out]at CE
  have HI:Hid ((prog.info? 27).map (·.size)=some H.size):=by show _=_;rw[HH.out.1];exact zp
  clear eZ HT
  go_upto_region 18 with fail
  go_wp2_with(first|(go_at_call 46;refine CE.mono ?_;rintro e w5 ⟨rfl,hb5⟩)|(refine Av rfl 27 _ rfl _ rfl 27 _ (0,0) _ RZ.out underlying27 rfl HI.out ?_))
  go_ret
  exact⟨rfl,PTo.ahead BB.out.1 (PTo.same BB.out.2 (hH.trans (hb5.mono hH.size)))⟩
 ·have hzs:w2.heap.size<=W0.heap.size:=hH.size
  go_simp
  refine hK.out _ _ (hH.alloc hH.size _) (fun hH2=>?_)
  clear hK K hH
  try go_simp
  revert hH2
  refine zj (Φ:=fun W=>Below _ _ W->wpAnyH _ _ _ _ _ _ _ _ W) ?_
  intro W1 eZ hz hH
  clear hz
  refine Ae (rs:=[12]) (by kernel_rfl) (by simp) ?_
  refine(Aa rfl (fun K hK=>?_) Ab)
  go_simp
  refine(CR.out _ hH).mono ?_
  rintro e W3 ⟨⟨v,H,m,rfl,ht⟩,hk⟩
  rw[<-HE.out]
  go_wp2_with fail
  refine hK.out _ _ (hH.trans (hk.mono hH.size)) (fun hH=>?_)
  clear hK K
  try go_simp
  have HT:Hid (Tells W3 v H O):=ht
  clear ht
  refine tI 13 (.tuple #[v,.agg H,m,.int .i64 er]) ?_;go_simp
  refine tI 14 (v) ?_;go_simp
  refine tI 15 (.agg H) ?_;go_simp
  refine tI 16 (m) ?_;go_simp
  refine tI 17 (.int .i64 er) ?_;go_simp
  have eZ:=(hk.block W0.heap.size (Ah.1 eZ).1).trans eZ
  skip
  refine tI 19 (v) ?_;go_simp
  have HZ:Hid (w2.heap.size<=W0.heap.size):=hzs
  have HH:Hid (H.size=35/\H.all (·.oneCell')=true):=⟨HT.out.size,HT.out.one⟩
  refine Ae (rs:=[20]) (by kernel_rfl) (by simp) ?_
  refine(Aa rfl (fun K hK=>?_) Ab)
  rw[if_pos (by rfl)]
  refine wp_store_row 27 _ _ rfl _ _ rfl rfl 27 _ eZ (by rw[HH.out.1];exact zp) (by rw[HH.out.1];rfl) HH.out.2 ?_
  refine hK.out _ _ (zc hH HZ.out _) (fun hH=>?_)
  clear hK K
  try go_simp
  have RZ:Hid ((W3.setRow W0.heap.size H).heap[W0.heap.size]?=some (.cells H 27 (0,0))):=setRow_heap _ _ _ _ _ _ eZ
  have TZ:Hid (Tells (W3.setRow W0.heap.size H) v H O):=HT.out.set eZ (fun i bb h=>by have:=Aq h;simp at this) H
  refine tI 21 (m) ?_;go_simp
  refine tI 22 (.int .i64 er) ?_;go_simp
  refine Aj (by kernel_rfl) ?_ _
  try go_simp
  generalize W3.setRow W0.heap.size H=V at hH RZ TZ⊢
  have CE:=CA.out V v H hH TZ.out
  rw[<-HE.out]at CE
  have HI:Hid ((prog.info? 27).map (·.size)=some H.size):=by show _=_;rw[HH.out.1];exact zp
  clear eZ HT
  go_upto_region 18 with fail
  go_wp2_with(first|(go_at_call 46;refine CE.mono ?_;rintro e w5 ⟨rfl,hb5⟩)|(refine Av rfl 27 _ rfl _ rfl 27 _ (0,0) _ RZ.out underlying27 rfl HI.out ?_))
  go_ret
  exact⟨rfl,PTo.ahead BB.out.1 (PTo.same BB.out.2 (hH.trans (hb5.mono hH.size)))⟩
end Go.Proofs.YtpiohehijkpghacGreatDoor.Dr
