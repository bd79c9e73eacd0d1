/- The first load that has seen too early: the document. -/
import Derived.Test.YtpiohehijkpghacGreatDoorD16
open Bool renaming and_eq_true->An
open Go renaming wpAnyH_ready->Ae,wp_region_held_drew->Af,wpAnyH_done->Ai,wpList_load_row->Ak,bodyPost_ret->Am
open Go.AllReadyH renaming cons->Ab,nil->Ad
open Go.Code renaming wp->Aq
open Go.Instr renaming makeFunc->Ao
open Go.RowKit.Below renaming refl->Ag
open Go.World renaming block_lt_of_cell?->WZ
open List renaming mem_of_getElem?->Aj
open Nat renaming le_refl->Aa,lt_of_lt_of_le->Ah,add_assoc->Ap
set_option maxHeartbeats 2000000
set_option maxRecDepth 20000
set_option linter.unusedSimpArgs false
set_option linter.unusedVariables false
open Go.Proofs.Tryz
namespace Go.Proofs.YtpiohehijkpghacGreatDoor.Od
open Go.Proofs.YtpiohehijkpghacGreatDoor.Wi
open Go.RowKit
open Hy
theorem zhq(s a:Ac)(hs1:Hid s.Ok)(ha:Hid a.Ok)(w:World):Calls prog 188 #[acv s,acv a] w fun e w'=>e=.returned (.bool (mt s a))/\Below w.heap.size w w':=by
 obtain⟨D,hD⟩:∃D:Nat,wd a=D:=⟨(wd a).toNat,by have:=zd1 a;omega⟩
 have hD4:D<=4:=by have:=zd1 a;omega
 have C:=fun w=>zav a w
 rw[hD]at C
 have HD:Hid (wd a=D):=hD
 clear hD
 have p0:=ha.out.p0
 have p1:=ha.out.p1
 go_enter func188,ntmps188
 go_upto_region 1 with fail
 refine jl (Φ:=fun W=>Aq _ _ _ _ W) ?_
 intro W h1 h2 hb hsz
 have B1:Hid (Box W w.heap.size s):=h1
 have B2:Hid (Box W (w.heap.size+1) a):=h2
 have HB0:Hid (Below w.heap.size w W):=hb
 clear h1 h2 hb
 go_wp2_with(refine Ak rfl 135 _ rfl _ rfl 135 _ (0,0) _ B2.out underlying135 rfl qZ ?_)
 refine(C _).mono ?_
 rintro e W1 ⟨rfl,hb⟩
 have HB1:Hid (Below W.heap.size W W1):=hb
 clear hb C
 go_wp2_with fail
 go_loopw [8] (fun i wr=>∃k:Nat,k<=D/\i=.int .u64 k/\Hid (Below W.heap.size W wr)/\Hid (∀j:Nat,j<k->hs s (a.pl+j)=false))
  (fun i _=>D-(intOf i).toNat)
 case atStart=>exact⟨0,by omega,rfl,HB1,fun j hj=>absurd hj (by omega)⟩
 case round=>
  obtain⟨k,hk,rfl,HB,HN⟩:=hrel
  have R1:Hid (Box wr w.heap.size s):=B1.out.below (Aa _) HB.out
  have c3:wr.cell? ⟨w.heap.size+1,3,none⟩=some (.int .u32 a.pl):=(B2.out.below (Aa _) HB.out).cell rfl
  by_cases hlt:k<D
  ·have C:=fun w=>zes s hs1.out (a.pl+k) (by omega) (by omega) w
   cases hh:hs s (a.pl+k)with
   |true=>
    rw[hh]at C
    have HM:Hid (mt s a=true):=zm5 hh (decide_eq_true ⟨by omega,by rw[HD.out];omega⟩)
    clear hh
    go_wp2_with(refine Ak rfl 135 _ rfl _ rfl 135 _ (0,0) _ R1.out underlying135 rfl qZ ?_)
    refine(C _).mono ?_
    rintro e W2 ⟨rfl,hb⟩
    have HB2:Hid (Below w.heap.size w W2):=HB0.out.trans ((HB.out.trans (hb.mono HB.out.size)).mono HB0.out.size)
    clear hb C
    go_wp2_with fail
    go_ret
    exact⟨by rw[HM.out];rfl,HB2.out⟩
   |false=>
    rw[hh]at C
    have HN':Hid (∀j:Nat,j<k+1->hs s (a.pl+j)=false):=fun j hj=>by
     by_cases e:j=k
     ·rw[e];exact hh
     ·exact HN.out j (by omega)
    clear hh
    go_wp2_with(refine Ak rfl 135 _ rfl _ rfl 135 _ (0,0) _ R1.out underlying135 rfl qZ ?_)
    refine(C _).mono ?_
    rintro e W2 ⟨rfl,hb⟩
    have HB2:Hid (Below W.heap.size W W2):=HB.out.trans (hb.mono HB.out.size)
    clear hb C
    go_wp2_with fail
    exact⟨⟨k+1,by omega,by go_num,HB2,HN'⟩,by simp[intOf];omega⟩
  ·have HM:Hid (mt s a=false):=by
    show mt s a=false
    cases hm:mt s a with
    |false=>rfl
    |true=>
     obtain⟨x,_,h1,h2⟩:=zo2 hm
     simp only[hs,decide_eq_true_eq]at h2
     rw[HD.out]at h2
     have:=HN.out (x-a.pl).toNat (by omega)
     rw[show a.pl+((x-a.pl).toNat:Int)=x by omega,h1]at this
     cases this
   have HB2:Hid (Below w.heap.size w wr):=HB0.out.trans (HB.out.mono HB0.out.size)
   go_wp2_with fail
   go_ret
   exact⟨by rw[HM.out];rfl,HB2.out⟩
def Asks(g:Nat)(b:Nat)(p:Ac->Bool)(w:World):Prop:=
 ∀(W:World) (q:Ac),Below w.heap.size w W->Calls prog g #[acv q,.pointer (some ⟨b,0,none⟩)] W fun e w'=>e=.returned (.bool (p q))/\Below W.heap.size W w'
theorem zjs(B:Nat)(seq:Int)(w:World)(hc:w.cell? ⟨B,0,none⟩=some (.int .i64 seq)):Asks 122 B (unk seq) w:=by
 intro W q hb
 have hB:B<w.heap.size:=WZ _ _ hc
 have hc1:W.cell? ⟨B,0,none⟩=some (.int .i64 seq):=(hb.cell (p:=⟨B,0,none⟩) hB).trans hc
 have hB1:B<W.heap.size:=Ah hB hb.size
 clear hb hc hB
 have C:=fun w=>zaw q seq w
 go_enter func122,ntmps122
 go_upto_region 1 with fail
 refine zj (Φ:=fun W=>Aq _ _ _ _ W) ?_
 intro V h1 hb
 have B1:Hid (Box V W.heap.size q):=h1
 have HB1:Hid (Below W.heap.size W V):=hb
 have c1:V.cell? ⟨B,0,none⟩=some (.int .i64 seq):=(hb.cell (p:=⟨B,0,none⟩) hB1).trans hc1
 clear h1 hb hc1
 cases hh:ahd seq q with
 |true=>
  rw[hh]at C
  have HM:Hid (unk seq q=!q.kn):=by show(_&&_)=_;rw[hh];rfl
  clear hh
  go_wp2_with(refine Ak rfl 135 _ rfl _ rfl 135 _ (0,0) _ B1.out underlying135 rfl qZ ?_)
  refine(C _).mono ?_
  rintro e W2 ⟨rfl,hb⟩
  have HB2:Hid (Below W.heap.size W W2):=HB1.out.trans (hb.mono HB1.out.size)
  have c2:W2.cell? ⟨W.heap.size,2,none⟩=some (.bool q.kn):=(B1.out.below (Aa _) hb).cell rfl
  clear hb C
  go_wp2_with fail
  go_ret
  exact⟨by rw[HM.out];rfl,HB2.out⟩
 |false=>
  rw[hh]at C
  have HM:Hid (unk seq q=false):=by show(_&&_)=_;rw[hh];rfl
  clear hh
  go_wp2_with(refine Ak rfl 135 _ rfl _ rfl 135 _ (0,0) _ B1.out underlying135 rfl qZ ?_)
  refine(C _).mono ?_
  rintro e W2 ⟨rfl,hb⟩
  have HB2:Hid (Below W.heap.size W W2):=HB1.out.trans (hb.mono HB1.out.size)
  clear hb C
  go_wp2_with fail
  go_ret
  exact⟨by rw[HM.out];rfl,HB2.out⟩
theorem zet(B:Nat)(seq:Int)(w:World)(hc:w.cell? ⟨B,0,none⟩=some (.int .i64 seq)):Asks 186 B (sto1 seq) w:=by
 intro W q hb
 have hB:B<w.heap.size:=WZ _ _ hc
 have hc1:W.cell? ⟨B,0,none⟩=some (.int .i64 seq):=(hb.cell (p:=⟨B,0,none⟩) hB).trans hc
 have hB1:B<W.heap.size:=Ah hB hb.size
 clear hb hc hB
 obtain⟨s,t,k,x,m,d,o⟩:=q
 go_enter func186,ntmps186
 go_wp2
 all_goals(go_ret;refine⟨?_,(Ag _ _).alloc (Aa _) _⟩;simp_all[sto1]<;>rfl)
theorem znT:∀args w,(callFunc 122 args).run prog w=.ok (.enter 122 args) w:=enters_of func122 (by kernel_rfl) rfl
theorem zkr:∀args w,(callFunc 186 args).run prog w=.ok (.enter 186 args) w:=enters_of func186 (by kernel_rfl) rfl
theorem qd(g b:Nat)(p:Ac->Bool)(eg:∀args w,(callFunc g args).run prog w=.ok (.enter g args) w)(a:Option Addr)(n c:Nat)(hn:n<=140737488355328)(l:List Ac)(m:Nat)(hm:Hid (FirstA p l m))(r:Int)(hr:Hid (r=if m<n then(m:Int)else-1))(w:World)(hL:Hid (LC w a n c 7 (acs l)))(hA:Hid (Asks g b p w)):
  Calls prog 81 #[.slice a n c,.func (.func g) #[] #[.pointer (some ⟨b,0,none⟩)]] w fun e w'=>e=.returned (.int .i64 r)/\Below w.heap.size w w':=by
 have hlen:Hid (l.length=n):=by have:=hL.out.len;rw[vf]at this;show _=_;omega
 have hmn:m<=n:=by have:=hm.out.le;have:=hlen.out;omega
 go_enter func81,ntmps81
 go_wp2_with fail
 go_loopw [8] (fun i wr=>∃k:Nat,k<=m/\i=.int .i64 k/\Hid (Below w.heap.size w wr))
  (fun i _=>n-(intOf i).toNat)
 case atStart=>exact⟨0,by omega,rfl,Ag _ _⟩
 case round=>
  obtain⟨k,hk,rfl,HB⟩:=hrel
  by_cases hlt:k<n
  ·obtain⟨q,hq⟩:=zd3 (l:=l) (k:=k) (by rw[hlen.out];exact hlt)
   obtain⟨bb,o,rfl,hb,hc⟩:=hL.out.sure (by omega)
   have cc:∀j u,(cel q)[j]?=some u->wr.cell? ⟨bb,o+(k*7+j),none⟩=some u:=fun j u hj=>(HB.out.cell (p:=⟨bb,o+(k*7+j),none⟩) hb).trans (hc _ _ (yj _ _ _ _ _ hq hj))
   have c0:wr.cell? ⟨bb,o+k*7,none⟩=some (.int .i64 q.seq):=cc 0 _ rfl
   have c1:wr.cell? ⟨bb,o+k*7+1,none⟩=some (.bool q.st):=cc 1 _ rfl
   have c2:wr.cell? ⟨bb,o+k*7+2,none⟩=some (.bool q.kn):=cc 2 _ rfl
   have c3:wr.cell? ⟨bb,o+k*7+3,none⟩=some (.int .u32 q.pl):=cc 3 _ rfl
   have c4:wr.cell? ⟨bb,o+k*7+4,none⟩=some (.int .i64 q.many):=cc 4 _ rfl
   have c5:wr.cell? ⟨bb,o+k*7+5,none⟩=some (.int .u32 q.data):=cc 5 _ rfl
   have c6:wr.cell? ⟨bb,o+k*7+6,none⟩=some (.bool q.done):=cc 6 _ rfl
   have hcall:=hA.out wr q HB.out
   by_cases hkm:k=m
   ·subst hkm
    have hp:p q=true:=hm.out.yes _ hq
    rw[hp]at hcall
    have hrk:r=k:=by rw[hr.out,if_pos hlt]
    subst hrk
    clear hc hq hp cc
    go_wp2_with fail
    refine hcall.mono ?_
    rintro e w' ⟨rfl,hb'⟩
    have HB':Hid (Below w.heap.size w w'):=HB.out.trans (hb'.mono HB.out.size)
    clear hcall hb' c0 c1 c2 c3 c4 c5 c6
    go_wp2_with fail
    go_ret
    exact⟨rfl,HB'.out⟩
   ·have hp:p q=false:=hm.out.no k _ (by omega) hq
    rw[hp]at hcall
    clear hc hq hp cc
    go_wp2_with fail
    refine hcall.mono ?_
    rintro e w' ⟨rfl,hb'⟩
    have HB':Hid (Below w.heap.size w w'):=HB.out.trans (hb'.mono HB.out.size)
    clear hcall hb' c0 c1 c2 c3 c4 c5 c6
    go_wp2_with fail
    exact⟨⟨k+1,by omega,by go_num,HB'⟩,by simp[intOf];omega⟩
  ·have:k=n:=by omega
   subst this
   have hrk:r=-1:=by rw[hr.out,if_neg (by omega)]
   subst hrk
   go_wp2_with fail
   go_ret
   exact⟨rfl,HB.out⟩
theorem ye(g b:Nat)(p:Ac->Bool)(eg:∀args w,(callFunc g args).run prog w=.ok (.enter g args) w)(a:Option Addr)(n c:Nat)(hn:n<=140737488355328)(l:List Ac)(m:Nat)(hm:Hid (FirstA p l m))(r:Bool)(hr:Hid (r=decide (m<n)))(w:World)(hL:Hid (LC w a n c 7 (acs l)))(hA:Hid (Asks g b p w)):
  Calls prog 121 #[.slice a n c,.func (.func g) #[] #[.pointer (some ⟨b,0,none⟩)]] w fun e w'=>e=.returned (.bool r)/\Below w.heap.size w w':=by
 obtain⟨x,hx⟩:∃x,Hid (x=if m<n then(m:Int)else-1):=⟨_,rfl⟩
 have C:=fun w hL hA=>qd g b p eg a n c hn l m hm x hx w hL hA
 have hr2:Hid (decide (0<=x)=r):=by
  show _=_
  rw[hr.out,hx.out]
  by_cases h:m<n
  ·rw[if_pos h];simp[h]
  ·rw[if_neg h];simp[h]
 go_enter func121,ntmps121
 go_wp2_with fail
 refine(C _ hL hA).mono ?_
 rintro e w' ⟨rfl,hb⟩
 have HB:Hid (Below w.heap.size w w'):=hb
 clear hb C
 go_wp2_with fail
 go_ret
 exact⟨by simp[hr2.out],HB.out⟩
end Go.Proofs.YtpiohehijkpghacGreatDoor.Od
namespace Go.Proofs.YtpiohehijkpghacGreatDoor.Od
open Go.Proofs.YtpiohehijkpghacGreatDoor.Wi
open Go.RowKit
open Hy
theorem below_drewN{B:Nat}{a w:World}(h:Below B a w)(q:Nat):Below B a (w.drewN q):=⟨h.os,h.tape,h.output,h.size,h.block⟩
def plc(o:Option Nat):Int:=match o with
 |none=>-1
 |some j=>j
theorem znU{seq x:Int}{q:Ac}(h:ahd seq q=false):gv seq x q=false:=by unfold gv;rw[h];rfl
theorem znV{seq x:Int}{q:Ac}(h:q.kn=false):gv seq x q=false:=by unfold gv;rw[h];simp
theorem znW{seq x:Int}{q:Ac}(h:hs q x=false):gv seq x q=false:=by unfold gv;rw[h];simp
theorem znX{seq x:Int}{q:Ac}(h1:ahd seq q=true)(h2:q.kn=true)(h3:hs q x=true):gv seq x q=true:=by unfold gv;rw[h1,h2,h3];rfl
theorem zdk(a:Option Addr)(n c:Nat)(seq x:Int)(l:List Ac)(hok:Hid (∀q∈l,q.Ok))(x0:0<=x)(x1:x<=4294967295)(r:Int)(f:Bool)(hr:Hid (r=seen l seq x 0 n))(hf:Hid (f=(bst l seq x n).isSome))(hn:n<=140737488355328)(w:World)(hL:Hid (LC w a n c 7 (acs l))):
  Calls prog 120 #[.slice a n c,.int .i64 seq,.int .u64 x] w fun e w'=>e=.returned (.tuple #[.int .u8 r,.bool f])/\Below w.heap.size w w':=by
 have hlen:Hid (l.length=n):=by have:=hL.out.len;rw[vf]at this;show _=_;omega
 go_enter func120,ntmps120
 go_wp2_with fail
 go_loopw [8,13] (fun t i wr=>∃(k:Nat) (T:Int),k<=n/\i=.int .i64 k/\t=.int .i64 T/\Hid (T=plc (bst l seq x k))/\Hid (Below w.heap.size w wr))
  (fun _ i _=>n-(intOf i).toNat)
 case atStart=>exact⟨0,-1,by omega,rfl,rfl,rfl,Ag _ _⟩
 case round=>
  obtain⟨k,T,hk,rfl,rfl,HT,HB⟩:=hrel
  by_cases hlt:k<n
  ·obtain⟨q,hq⟩:=zd3 (l:=l) (k:=k) (by rw[hlen.out];exact hlt)
   have hqo:Hid q.Ok:=hok.out q (Aj hq)
   obtain⟨bb,o,rfl,hb,hc⟩:=hL.out.sure (by omega)
   have HC:Hid (∀j u,(acs l)[j]?=some u->w.cell? ⟨bb,o+j,none⟩=some u):=hc
   have cc:∀j u,(cel q)[j]?=some u->wr.cell? ⟨bb,o+(k*7+j),none⟩=some u:=fun j u hj=>(HB.out.cell (p:=⟨bb,o+(k*7+j),none⟩) hb).trans (hc _ _ (yj _ _ _ _ _ hq hj))
   have c0:wr.cell? ⟨bb,o+k*7,none⟩=some (.int .i64 q.seq):=cc 0 _ rfl
   have c1:wr.cell? ⟨bb,o+k*7+1,none⟩=some (.bool q.st):=cc 1 _ rfl
   have c2:wr.cell? ⟨bb,o+k*7+2,none⟩=some (.bool q.kn):=cc 2 _ rfl
   have c3:wr.cell? ⟨bb,o+k*7+3,none⟩=some (.int .u32 q.pl):=cc 3 _ rfl
   have c4:wr.cell? ⟨bb,o+k*7+4,none⟩=some (.int .i64 q.many):=cc 4 _ rfl
   have c5:wr.cell? ⟨bb,o+k*7+5,none⟩=some (.int .u32 q.data):=cc 5 _ rfl
   have c6:wr.cell? ⟨bb,o+k*7+6,none⟩=some (.bool q.done):=cc 6 _ rfl
   have HQ:Hid (l[k]?=some q):=hq
   clear hc hq cc
   go_upto_region 5 with fail
   refine zj (Φ:=fun W=>Aq _ _ _ _ W) ?_
   intro V hV hVb
   have BV:Hid (Box V wr.heap.size q):=hV
   have HBV:Hid (Below w.heap.size w V):=HB.out.trans (hVb.mono HB.out.size)
   clear hV hVb HB c0 c1 c2 c3 c4 c5 c6
   have C1:=fun w=>zaw q seq w
   have C2:=fun w=>zes q hqo.out x x0 (by omega) w
   cases hah:ahd seq q with
   |false=>
    rw[hah]at C1
    have HN:Hid (T=plc (bst l seq x (k+1))):=by rw[zgq HQ.out (znU hah)];exact HT
    clear hah C2
    refine Af (S:=fun w'=>Below V.heap.size V w') (by kernel_rfl) ((Ag _ _).drew) (fun hH=>?_)
    refine Co.tH 0 (acv q) rfl (zb (by rfl) 135 _ rfl _ rfl 135 _ (0,0) _ (fun w hSw=>(BV.out).below (Aa _) hSw) underlying135 rfl qZ) hH ?_;go_simp
    refine Co.tI 1 (.int .i64 seq) ?_;go_simp
    refine Ae (rs:=[2]) (by kernel_rfl) (by simp) ?_
    refine Ab rfl (fun K hK=>?_) Ad
    go_simp
    refine(C1 _).mono ?_
    rintro e W1 ⟨rfl,hk⟩
    go_wp2_with fail
    refine hK.out _ _ (hH.trans (hk.mono hH.size)) (fun hH=>?_)
    clear hK K hk
    try go_simp
    refine Co.tI 3 (.bool false) ?_;go_simp
    refine Co.tN 4 ?_;go_simp
    refine Co.tN 5 ?_;go_simp
    refine Co.tI 6 (.bool false) ?_;go_simp
    refine Co.tI 7 (.bool false) ?_;go_simp
    refine Co.tN 8 ?_;go_simp
    refine Co.tN 9 ?_;go_simp
    refine Co.tN 10 ?_;go_simp
    refine Co.tI 11 (.bool false) ?_;go_simp
    refine Co.tI 12 (.bool false) ?_;go_simp
    refine Co.tN 13 ?_;go_simp
    refine Co.tN 14 ?_;go_simp
    refine Co.tN 15 ?_;go_simp
    refine Co.tN 16 ?_;go_simp
    refine Co.tN 17 ?_;go_simp
    refine Co.tN 18 ?_;go_simp
    refine Co.tN 19 ?_;go_simp
    refine Co.tN 20 ?_;go_simp
    refine Co.tN 21 ?_;go_simp
    refine Co.tN 22 ?_;go_simp
    refine Co.tN 23 ?_;go_simp
    refine Co.tN 24 ?_;go_simp
    refine Co.tI 25 (.bool false) ?_;go_simp
    refine Ai (by kernel_rfl) ?_ _
    try go_simp
    have HF:Hid (Below w.heap.size w W1):=HBV.out.trans (hH.mono HBV.out.size)
    clear hH
    go_wp2_with fail
    exact⟨⟨k+1,_,by omega,by go_num,rfl,HN,HF⟩,by simp[intOf];omega⟩
   |true=>
    rw[hah]at C1
    have HA:Hid (ahd seq q=true):=hah
    clear hah
    cases hkn:q.kn with
    |false=>
     have HN:Hid (T=plc (bst l seq x (k+1))):=by rw[zgq HQ.out (znV hkn)];exact HT
     clear C2
     refine Af (S:=fun w'=>Below V.heap.size V w') (by kernel_rfl) ((Ag _ _).drew) (fun hH=>?_)
     refine Co.tH 0 (acv q) rfl (zb (by rfl) 135 _ rfl _ rfl 135 _ (0,0) _ (fun w hSw=>(BV.out).below (Aa _) hSw) underlying135 rfl qZ) hH ?_;go_simp
     refine Co.tI 1 (.int .i64 seq) ?_;go_simp
     refine Ae (rs:=[2]) (by kernel_rfl) (by simp) ?_
     refine Ab rfl (fun K hK=>?_) Ad
     go_simp
     refine(C1 _).mono ?_
     rintro e W1 ⟨rfl,hk⟩
     go_wp2_with fail
     refine hK.out _ _ (hH.trans (hk.mono hH.size)) (fun hH=>?_)
     clear hK K hk
     try go_simp
     refine Co.tI 3 (.bool true) ?_;go_simp
     refine Co.tI 4 (.pointer (some ⟨wr.heap.size,2,none⟩)) ?_;go_simp
     refine Co.tH 5 (.bool false) rfl (Or.inl ⟨by rfl,by intro w hSw;have h2:=(BV.out.below (Aa _) hSw).cell (j:=2) rfl;rw[hkn]at h2;go_simp⟩) hH ?_;go_simp
     refine Co.tI 6 (.bool false) ?_;go_simp
     refine Co.tI 7 (.bool false) ?_;go_simp
     refine Co.tN 8 ?_;go_simp
     refine Co.tN 9 ?_;go_simp
     refine Co.tN 10 ?_;go_simp
     refine Co.tI 11 (.bool false) ?_;go_simp
     refine Co.tI 12 (.bool false) ?_;go_simp
     refine Co.tN 13 ?_;go_simp
     refine Co.tN 14 ?_;go_simp
     refine Co.tN 15 ?_;go_simp
     refine Co.tN 16 ?_;go_simp
     refine Co.tN 17 ?_;go_simp
     refine Co.tN 18 ?_;go_simp
     refine Co.tN 19 ?_;go_simp
     refine Co.tN 20 ?_;go_simp
     refine Co.tN 21 ?_;go_simp
     refine Co.tN 22 ?_;go_simp
     refine Co.tN 23 ?_;go_simp
     refine Co.tN 24 ?_;go_simp
     refine Co.tI 25 (.bool false) ?_;go_simp
     refine Ai (by kernel_rfl) ?_ _
     try go_simp
     have HF:Hid (Below w.heap.size w W1):=HBV.out.trans (hH.mono HBV.out.size)
     clear hH
     go_wp2_with fail
     exact⟨⟨k+1,_,by omega,by go_num,rfl,HN,HF⟩,by simp[intOf];omega⟩
    |true=>
     cases hhs:hs q x with
     |false=>
      rw[hhs]at C2
      have HN:Hid (T=plc (bst l seq x (k+1))):=by rw[zgq HQ.out (znW hhs)];exact HT
      clear hhs
      refine Af (S:=fun w'=>Below V.heap.size V w') (by kernel_rfl) ((Ag _ _).drew) (fun hH=>?_)
      refine Co.tH 0 (acv q) rfl (zb (by rfl) 135 _ rfl _ rfl 135 _ (0,0) _ (fun w hSw=>(BV.out).below (Aa _) hSw) underlying135 rfl qZ) hH ?_;go_simp
      refine Co.tI 1 (.int .i64 seq) ?_;go_simp
      refine Ae (rs:=[2]) (by kernel_rfl) (by simp) ?_
      refine Ab rfl (fun K hK=>?_) Ad
      go_simp
      refine(C1 _).mono ?_
      rintro e W1 ⟨rfl,hk⟩
      go_wp2_with fail
      refine hK.out _ _ (hH.trans (hk.mono hH.size)) (fun hH=>?_)
      clear hK K hk
      try go_simp
      refine Co.tI 3 (.bool true) ?_;go_simp
      refine Co.tI 4 (.pointer (some ⟨wr.heap.size,2,none⟩)) ?_;go_simp
      refine Co.tH 5 (.bool true) rfl (Or.inl ⟨by rfl,by intro w hSw;have h2:=(BV.out.below (Aa _) hSw).cell (j:=2) rfl;rw[hkn]at h2;go_simp⟩) hH ?_;go_simp
      refine Co.tI 6 (.bool true) ?_;go_simp
      refine Co.tI 7 (.bool true) ?_;go_simp
      refine Co.tH 8 (acv q) rfl (zb (by rfl) 135 _ rfl _ rfl 135 _ (0,0) _ (fun w hSw=>(BV.out).below (Aa _) hSw) underlying135 rfl qZ) hH ?_;go_simp
      refine Co.tI 9 (.int .u64 x) ?_;go_simp
      refine Ae (rs:=[10]) (by kernel_rfl) (by simp) ?_
      refine Ab rfl (fun K hK=>?_) Ad
      go_simp
      refine(C2 _).mono ?_
      rintro e W2 ⟨rfl,hk⟩
      go_wp2_with fail
      refine hK.out _ _ (hH.trans (hk.mono hH.size)) (fun hH=>?_)
      clear hK K hk
      try go_simp
      refine Co.tI 11 (.bool false) ?_;go_simp
      refine Co.tI 12 (.bool false) ?_;go_simp
      refine Co.tN 13 ?_;go_simp
      refine Co.tN 14 ?_;go_simp
      refine Co.tN 15 ?_;go_simp
      refine Co.tN 16 ?_;go_simp
      refine Co.tN 17 ?_;go_simp
      refine Co.tN 18 ?_;go_simp
      refine Co.tN 19 ?_;go_simp
      refine Co.tN 20 ?_;go_simp
      refine Co.tN 21 ?_;go_simp
      refine Co.tN 22 ?_;go_simp
      refine Co.tN 23 ?_;go_simp
      refine Co.tN 24 ?_;go_simp
      refine Co.tI 25 (.bool false) ?_;go_simp
      refine Ai (by kernel_rfl) ?_ _
      try go_simp
      have HF:Hid (Below w.heap.size w W2):=HBV.out.trans (hH.mono HBV.out.size)
      clear hH
      go_wp2_with fail
      exact⟨⟨k+1,_,by omega,by go_num,rfl,HN,HF⟩,by simp[intOf];omega⟩
     |true=>
      rw[hhs]at C2
      have HG:Hid (gv seq x q=true):=znX HA.out hkn hhs
      clear hhs HA
      cases hbs:bst l seq x k with
      |none=>
       obtain rfl:T=-1:=by rw[HT.out,hbs];rfl
       have HN:Hid ((k:Int)=plc (bst l seq x (k+1))):=by rw[zgr HQ.out HG.out hbs];rfl
       clear hbs HT
       refine Af (S:=fun w'=>Below V.heap.size V w') (by kernel_rfl) ((Ag _ _).drew) (fun hH=>?_)
       refine Co.tH 0 (acv q) rfl (zb (by rfl) 135 _ rfl _ rfl 135 _ (0,0) _ (fun w hSw=>(BV.out).below (Aa _) hSw) underlying135 rfl qZ) hH ?_;go_simp
       refine Co.tI 1 (.int .i64 seq) ?_;go_simp
       refine Ae (rs:=[2]) (by kernel_rfl) (by simp) ?_
       refine Ab rfl (fun K hK=>?_) Ad
       go_simp
       refine(C1 _).mono ?_
       rintro e W1 ⟨rfl,hk⟩
       go_wp2_with fail
       refine hK.out _ _ (hH.trans (hk.mono hH.size)) (fun hH=>?_)
       clear hK K hk
       try go_simp
       refine Co.tI 3 (.bool true) ?_;go_simp
       refine Co.tI 4 (.pointer (some ⟨wr.heap.size,2,none⟩)) ?_;go_simp
       refine Co.tH 5 (.bool true) rfl (Or.inl ⟨by rfl,by intro w hSw;have h2:=(BV.out.below (Aa _) hSw).cell (j:=2) rfl;rw[hkn]at h2;go_simp⟩) hH ?_;go_simp
       refine Co.tI 6 (.bool true) ?_;go_simp
       refine Co.tI 7 (.bool true) ?_;go_simp
       refine Co.tH 8 (acv q) rfl (zb (by rfl) 135 _ rfl _ rfl 135 _ (0,0) _ (fun w hSw=>(BV.out).below (Aa _) hSw) underlying135 rfl qZ) hH ?_;go_simp
       refine Co.tI 9 (.int .u64 x) ?_;go_simp
       refine Ae (rs:=[10]) (by kernel_rfl) (by simp) ?_
       refine Ab rfl (fun K hK=>?_) Ad
       go_simp
       refine(C2 _).mono ?_
       rintro e W2 ⟨rfl,hk⟩
       go_wp2_with fail
       refine hK.out _ _ (hH.trans (hk.mono hH.size)) (fun hH=>?_)
       clear hK K hk
       try go_simp
       refine Co.tI 11 (.bool true) ?_;go_simp
       refine Co.tI 12 (.bool true) ?_;go_simp
       refine Co.tI 13 (.int .i64 (-1)) ?_;go_simp
       refine Co.tI 14 (.bool true) ?_;go_simp
       refine Co.tI 15 (.bool true) ?_;go_simp
       refine Co.tN 16 ?_;go_simp
       refine Co.tN 17 ?_;go_simp
       refine Co.tN 18 ?_;go_simp
       refine Co.tN 19 ?_;go_simp
       refine Co.tN 20 ?_;go_simp
       refine Co.tN 21 ?_;go_simp
       refine Co.tN 22 ?_;go_simp
       refine Co.tN 23 ?_;go_simp
       refine Co.tI 24 (.bool true) ?_;go_simp
       refine Co.tI 25 (.bool true) ?_;go_simp
       refine Ai (by kernel_rfl) ?_ _
       try go_simp
       have HF:Hid (Below w.heap.size w W2):=HBV.out.trans (hH.mono HBV.out.size)
       clear hH
       go_wp2_with fail
       exact⟨⟨k+1,_,by omega,by go_num,rfl,HN,HF⟩,by simp[intOf];omega⟩
      |some j=>
       obtain rfl:T=(j:Int):=by rw[HT.out,hbs];rfl
       have HS:Hid (bst l seq x k=some j):=hbs
       obtain⟨hjk,q1,hq1,_⟩:=kd _ _ _ _ _ hbs
       have hbV:bb<V.heap.size:=Ah hb HBV.out.size
       have cj:V.cell? ⟨bb,o+j*7,none⟩=some (.int .i64 q1.seq):=(HBV.out.cell (p:=⟨bb,o+j*7,none⟩) hb).trans (HC.out _ _ (yj _ _ 0 _ _ hq1 rfl))
       have HJ:Hid (l[j]?=some q1):=hq1
       have hjn:j<n:=by omega
       clear hbs hq1 HT
       by_cases hle:q1.seq<=q.seq
       ·have HN:Hid ((k:Int)=plc (bst l seq x (k+1))):=by rw[ziM HQ.out HG.out HS.out HJ.out hle];rfl
        refine Af (S:=fun w'=>Below V.heap.size V w') (by kernel_rfl) ((Ag _ _).drew) (fun hH=>?_)
        refine Co.tH 0 (acv q) rfl (zb (by rfl) 135 _ rfl _ rfl 135 _ (0,0) _ (fun w hSw=>(BV.out).below (Aa _) hSw) underlying135 rfl qZ) hH ?_;go_simp
        refine Co.tI 1 (.int .i64 seq) ?_;go_simp
        refine Ae (rs:=[2]) (by kernel_rfl) (by simp) ?_
        refine Ab rfl (fun K hK=>?_) Ad
        go_simp
        refine(C1 _).mono ?_
        rintro e W1 ⟨rfl,hk⟩
        go_wp2_with fail
        refine hK.out _ _ (hH.trans (hk.mono hH.size)) (fun hH=>?_)
        clear hK K hk
        try go_simp
        refine Co.tI 3 (.bool true) ?_;go_simp
        refine Co.tI 4 (.pointer (some ⟨wr.heap.size,2,none⟩)) ?_;go_simp
        refine Co.tH 5 (.bool true) rfl (Or.inl ⟨by rfl,by intro w hSw;have h2:=(BV.out.below (Aa _) hSw).cell (j:=2) rfl;rw[hkn]at h2;go_simp⟩) hH ?_;go_simp
        refine Co.tI 6 (.bool true) ?_;go_simp
        refine Co.tI 7 (.bool true) ?_;go_simp
        refine Co.tH 8 (acv q) rfl (zb (by rfl) 135 _ rfl _ rfl 135 _ (0,0) _ (fun w hSw=>(BV.out).below (Aa _) hSw) underlying135 rfl qZ) hH ?_;go_simp
        refine Co.tI 9 (.int .u64 x) ?_;go_simp
        refine Ae (rs:=[10]) (by kernel_rfl) (by simp) ?_
        refine Ab rfl (fun K hK=>?_) Ad
        go_simp
        refine(C2 _).mono ?_
        rintro e W2 ⟨rfl,hk⟩
        go_wp2_with fail
        refine hK.out _ _ (hH.trans (hk.mono hH.size)) (fun hH=>?_)
        clear hK K hk
        try go_simp
        refine Co.tI 11 (.bool true) ?_;go_simp
        refine Co.tI 12 (.bool true) ?_;go_simp
        refine Co.tI 13 (.int .i64 j) ?_;go_simp
        refine Co.tI 14 (.bool false) ?_;go_simp
        refine Co.tI 15 (.bool false) ?_;go_simp
        refine Co.tI 16 (.pointer (some ⟨wr.heap.size,0,none⟩)) ?_;go_simp
        refine Co.tH 17 (.int .i64 q.seq) rfl (Or.inl ⟨by rfl,by intro w hSw;have h2:=(BV.out.below (Aa _) hSw).cell (j:=0) rfl;go_simp⟩) hH ?_;go_simp
        refine Co.tI 18 (.slice (some ⟨bb,o,none⟩) n c) ?_;go_simp
        refine Co.tI 19 (.int .i64 j) ?_;go_simp
        refine Co.tI 20 (.pointer (some ⟨bb,o+j*7,none⟩)) ?_;go_simp
        refine Co.tI 21 (.pointer (some ⟨bb,o+j*7,none⟩)) ?_;go_simp
        refine Co.tH 22 (.int .i64 q1.seq) rfl (Or.inl ⟨by rfl,by intro w hSw;have h2:=(hSw.cell (p:=⟨bb,o+j*7,none⟩) hbV).trans cj;go_simp⟩) hH ?_;go_simp
        refine Co.tI 23 (.bool true) ?_;go_simp
        refine Co.tI 24 (.bool true) ?_;go_simp
        refine Co.tI 25 (.bool true) ?_;go_simp
        refine Ai (by kernel_rfl) ?_ _
        try go_simp
        have HF:Hid (Below w.heap.size w W2):=HBV.out.trans (hH.mono HBV.out.size)
        clear hH
        go_wp2_with fail
        exact⟨⟨k+1,_,by omega,by go_num,rfl,HN,HF⟩,by simp[intOf];omega⟩
       ·have HN:Hid ((j:Int)=plc (bst l seq x (k+1))):=by rw[ziN HQ.out HS.out HJ.out (by omega),HS.out];rfl
        refine Af (S:=fun w'=>Below V.heap.size V w') (by kernel_rfl) ((Ag _ _).drew) (fun hH=>?_)
        refine Co.tH 0 (acv q) rfl (zb (by rfl) 135 _ rfl _ rfl 135 _ (0,0) _ (fun w hSw=>(BV.out).below (Aa _) hSw) underlying135 rfl qZ) hH ?_;go_simp
        refine Co.tI 1 (.int .i64 seq) ?_;go_simp
        refine Ae (rs:=[2]) (by kernel_rfl) (by simp) ?_
        refine Ab rfl (fun K hK=>?_) Ad
        go_simp
        refine(C1 _).mono ?_
        rintro e W1 ⟨rfl,hk⟩
        go_wp2_with fail
        refine hK.out _ _ (hH.trans (hk.mono hH.size)) (fun hH=>?_)
        clear hK K hk
        try go_simp
        refine Co.tI 3 (.bool true) ?_;go_simp
        refine Co.tI 4 (.pointer (some ⟨wr.heap.size,2,none⟩)) ?_;go_simp
        refine Co.tH 5 (.bool true) rfl (Or.inl ⟨by rfl,by intro w hSw;have h2:=(BV.out.below (Aa _) hSw).cell (j:=2) rfl;rw[hkn]at h2;go_simp⟩) hH ?_;go_simp
        refine Co.tI 6 (.bool true) ?_;go_simp
        refine Co.tI 7 (.bool true) ?_;go_simp
        refine Co.tH 8 (acv q) rfl (zb (by rfl) 135 _ rfl _ rfl 135 _ (0,0) _ (fun w hSw=>(BV.out).below (Aa _) hSw) underlying135 rfl qZ) hH ?_;go_simp
        refine Co.tI 9 (.int .u64 x) ?_;go_simp
        refine Ae (rs:=[10]) (by kernel_rfl) (by simp) ?_
        refine Ab rfl (fun K hK=>?_) Ad
        go_simp
        refine(C2 _).mono ?_
        rintro e W2 ⟨rfl,hk⟩
        go_wp2_with fail
        refine hK.out _ _ (hH.trans (hk.mono hH.size)) (fun hH=>?_)
        clear hK K hk
        try go_simp
        refine Co.tI 11 (.bool true) ?_;go_simp
        refine Co.tI 12 (.bool true) ?_;go_simp
        refine Co.tI 13 (.int .i64 j) ?_;go_simp
        refine Co.tI 14 (.bool false) ?_;go_simp
        refine Co.tI 15 (.bool false) ?_;go_simp
        refine Co.tI 16 (.pointer (some ⟨wr.heap.size,0,none⟩)) ?_;go_simp
        refine Co.tH 17 (.int .i64 q.seq) rfl (Or.inl ⟨by rfl,by intro w hSw;have h2:=(BV.out.below (Aa _) hSw).cell (j:=0) rfl;go_simp⟩) hH ?_;go_simp
        refine Co.tI 18 (.slice (some ⟨bb,o,none⟩) n c) ?_;go_simp
        refine Co.tI 19 (.int .i64 j) ?_;go_simp
        refine Co.tI 20 (.pointer (some ⟨bb,o+j*7,none⟩)) ?_;go_simp
        refine Co.tI 21 (.pointer (some ⟨bb,o+j*7,none⟩)) ?_;go_simp
        refine Co.tH 22 (.int .i64 q1.seq) rfl (Or.inl ⟨by rfl,by intro w hSw;have h2:=(hSw.cell (p:=⟨bb,o+j*7,none⟩) hbV).trans cj;go_simp⟩) hH ?_;go_simp
        refine Co.tI 23 (.bool false) ?_;go_simp
        refine Co.tI 24 (.bool false) ?_;go_simp
        refine Co.tI 25 (.bool false) ?_;go_simp
        refine Ai (by kernel_rfl) ?_ _
        try go_simp
        have HF:Hid (Below w.heap.size w W2):=HBV.out.trans (hH.mono HBV.out.size)
        clear hH
        go_wp2_with fail
        exact⟨⟨k+1,_,by omega,by go_num,rfl,HN,HF⟩,by simp[intOf];omega⟩
  ·obtain rfl:k=n:=by omega
   cases hbs:bst l seq x k with
   |none=>
    obtain rfl:T=-1:=by rw[HT.out,hbs];rfl
    obtain rfl:r=0:=by rw[hr.out,seen_none hbs]
    obtain rfl:f=false:=by rw[hf.out,hbs];rfl
    clear hbs
    go_wp2_with fail
    refine Am (v:=.tuple #[.int .u8 0,.bool false]) ?_ rfl ⟨rfl,HB.out⟩
    simp[results,results120,asAddr]
   |some j=>
    obtain rfl:T=(j:Int):=by rw[HT.out,hbs];rfl
    obtain⟨hjk,q1,hq1,hg1⟩:=kd _ _ _ _ _ hbs
    obtain rfl:f=true:=by rw[hf.out,hbs];rfl
    have hrq:Hid (r=byt q1 x):=by show r=_;rw[hr.out,ke hbs hq1]
    obtain⟨bb,o,rfl,hb,hc⟩:=hL.out.sure (by omega)
    have e5:wr.cell? ⟨bb,o+j*7+5,none⟩=some (.int .u32 q1.data):=by rw[Ap];exact(HB.out.cell (p:=⟨bb,o+(j*7+5),none⟩) hb).trans (hc _ _ (yj _ _ 5 _ _ hq1 rfl))
    have e3:wr.cell? ⟨bb,o+j*7+3,none⟩=some (.int .u32 q1.pl):=by rw[Ap];exact(HB.out.cell (p:=⟨bb,o+(j*7+3),none⟩) hb).trans (hc _ _ (yj _ _ 3 _ _ hq1 rfl))
    have hok1:=hok.out q1 (Aj hq1)
    have p0:=hok1.p0
    have p1:=hok1.p1
    have d0:=hok1.d0
    have d1:=hok1.d1
    have hsx:q1.pl<=x/\x<q1.pl+wd q1:=by
     unfold gv at hg1
     simp only[An]at hg1
     simpa[hs]using hg1.2
    have hw4:=zd1 q1
    obtain⟨i,hi⟩:∃i:Nat,x=q1.pl+i:=⟨(x-q1.pl).toNat,by omega⟩
    have hi4:i<4:=by omega
    obtain⟨P,hP⟩:∃P,P=q1.pl:=⟨_,rfl⟩
    obtain⟨D,hD⟩:∃D,D=q1.data:=⟨_,rfl⟩
    have HV:Hid (r=D/two (8*i)%256):=by
     show r=_
     rw[hrq.out,byt,hD,show(x-q1.pl).toNat=i by omega]
    rw[<-hP]at p0 p1 hi e3
    rw[<-hD]at d0 d1 e5
    subst hi
    clear hc hq1 hg1 hsx hw4 hok1 hP hD hbs
    have HE:Hid ((8*(P+(i:Int)-P)).toNat=8*i):=by show _=_;omega
    go_upto_region 10 with fail
    go_quiet(fail)
    go_wp2_with fail
    refine Am (v:=.tuple #[.int .u8 r,.bool true]) ?_ rfl ⟨rfl,below_drewN HB.out nq⟩
    rw[HV.out]
    simp[results,results120,asAddr,HE.out,two]
end Go.Proofs.YtpiohehijkpghacGreatDoor.Od
namespace Go.Proofs.YtpiohehijkpghacGreatDoor.Od
open Go.Proofs.YtpiohehijkpghacGreatDoor.Wi
open Go.RowKit
open Hy
def Told(o:Option Int)(y:Int)(f:Bool):Prop:=f=o.isSome/\y=o.getD 0
theorem told_none{o:Option Int}(h:o=none):Told o 0 false:=by subst h;exact⟨rfl,rfl⟩
theorem vI{o:Option Int}{y:Int}(h:o=some y):Told o y true:=by subst h;exact⟨rfl,rfl⟩
theorem Told.none'{y:Int}{f:Bool}(h:Told none y f):y=0/\f=false:=⟨h.2,h.1⟩
theorem Told.some'{z y:Int}{f:Bool}(h:Told (some z) y f):y=z/\f=true:=⟨h.2,h.1⟩
theorem znY(a:Option Addr)(n c:Nat)(seq:Int)(l:List Ac)(hm:Hid (FirstA (sto1 seq) l n))(hn:n<=140737488355328)(w:World)(hL:Hid (LC w a n c 7 (acs l))):
  Calls prog 160 #[.slice a n c,.int .i64 seq] w fun e w'=>e=.returned (.tuple #[.int .i64 0,.bool false])/\Below w.heap.size w w':=by
 have hmf:∀(fn:Fn) (first cap:Array Value) (w:World),(Ao fn first cap).run prog w=.ok (.func fn first cap) w:=fun _ _ _ _=>rfl
 go_enter func160,ntmps160
 go_wp2_with fail
 refine zj (Φ:=fun W=>Calls _ _ _ W _) ?_
 intro V hV hVb
 have HV:Hid (Below w.heap.size w V):=hVb
 have HA:Hid (Asks 186 w.heap.size (sto1 seq) V):=zet _ _ _ ((cell_of_row _ _ _ _ _ _ hV).trans rfl)
 clear hV hVb
 refine(qd 186 w.heap.size (sto1 seq) zkr a n c (by omega) l n hm (-1) (show _=_ by simp) V (hL.out.below (Aa _) HV.out) HA).mono ?_
 rintro e W1 ⟨rfl,hb⟩
 have HB:Hid (Below w.heap.size w W1):=HV.out.trans (hb.mono HV.out.size)
 clear hb HA HV
 go_wp2_with fail
 refine Am (v:=.tuple #[.int .i64 0,.bool false]) ?_ rfl ⟨rfl,HB.out⟩
 simp[results,results160,asAddr]
theorem zft(a:Option Addr)(n c:Nat)(seq:Int)(l:List Ac)(hok:Hid (∀q∈l,q.Ok))(m:Nat)(hm:Hid (FirstA (sto1 seq) l m))(hmn:m<n)(s:Ac)(hs:Hid (l[m]?=some s))(y0:Int)(f0:Bool)(hT:Hid (Told (lst l s n) y0 f0))(hn:n<=140737488355328)(w:World)(hL:Hid (LC w a n c 7 (acs l))):
  Calls prog 160 #[.slice a n c,.int .i64 seq] w fun e w'=>e=.returned (.tuple #[.int .i64 y0,.bool f0])/\Below w.heap.size w w':=by
 have hmf:∀(fn:Fn) (first cap:Array Value) (w:World),(Ao fn first cap).run prog w=.ok (.func fn first cap) w:=fun _ _ _ _=>rfl
 have hlen:Hid (l.length=n):=by have:=hL.out.len;rw[vf]at this;show _=_;omega
 have hso:Hid s.Ok:=hok.out s (Aj hs.out)
 have hsq:Hid (s.seq=seq):=by
  have:=hm.out.yes _ hs.out
  unfold sto1 at this
  simp only[An,decide_eq_true_eq]at this
  exact this.2
 obtain⟨bb,o,rfl,hb,hc⟩:=hL.out.sure (by omega)
 have HC:Hid (∀j u,(acs l)[j]?=some u->w.cell? ⟨bb,o+j,none⟩=some u):=hc
 clear hc
 go_enter func160,ntmps160
 go_wp2_with fail
 refine zj (Φ:=fun W=>Calls _ _ _ W _) ?_
 intro V0 hV hVb
 have HV:Hid (Below w.heap.size w V0):=hVb
 have cs0:V0.cell? ⟨w.heap.size,0,none⟩=some (.int .i64 seq):=(cell_of_row _ _ _ _ _ _ hV).trans rfl
 have hw0:w.heap.size<V0.heap.size:=zk hV
 have HA:Hid (Asks 186 w.heap.size (sto1 seq) V0):=zet _ _ _ cs0
 clear hV hVb
 refine(qd 186 w.heap.size (sto1 seq) zkr _ n c (by omega) l m hm m (show _=_ by rw[if_pos hmn]) V0 (hL.out.below (Aa _) HV.out) HA).mono ?_
 rintro e W ⟨rfl,hbW⟩
 have HW:Hid (Below w.heap.size w W):=HV.out.trans (hbW.mono HV.out.size)
 have csW:W.cell? ⟨w.heap.size,0,none⟩=some (.int .i64 seq):=(hbW.cell (p:=⟨w.heap.size,0,none⟩) hw0).trans cs0
 have hwW:w.heap.size<W.heap.size:=Ah hw0 hbW.size
 have HCS:Hid (W.cell? ⟨w.heap.size,0,none⟩=some (.int .i64 seq)):=csW
 have hbb:bb<W.heap.size:=Ah hb HW.out.size
 have HCW:Hid (∀j u,(acs l)[j]?=some u->W.cell? ⟨bb,o+j,none⟩=some u):=fun j u hj=>(HW.out.cell (p:=⟨bb,o+j,none⟩) hb).trans (HC.out j u hj)
 clear hbW HA HV cs0 hw0 csW
 go_wp2_with fail
 go_loopw [7,8,18] (fun t u i wr=>∃(k:Nat) (y:Int) (f:Bool),k<=n/\i=.int .i64 k/\t=.int .i64 y/\u=.bool f/\Hid (Told (lst l s k) y f)/\Hid (Below W.heap.size W wr))
  (fun _ _ i _=>n-(intOf i).toNat)
 case atStart=>exact⟨0,0,false,by omega,rfl,rfl,rfl,told_none rfl,Ag _ _⟩
 case round=>
  obtain⟨k,y,f,hk,rfl,rfl,rfl,HT,HB⟩:=hrel
  by_cases hlt:k<n
  ·obtain⟨q,hq⟩:=zd3 (l:=l) (k:=k) (by rw[hlen.out];exact hlt)
   have hqo:Hid q.Ok:=hok.out q (Aj hq)
   have cc:∀j u,(cel q)[j]?=some u->wr.cell? ⟨bb,o+(k*7+j),none⟩=some u:=fun j u hj=>(HB.out.cell (p:=⟨bb,o+(k*7+j),none⟩) hbb).trans (HCW.out _ _ (yj _ _ _ _ _ hq hj))
   have c0:wr.cell? ⟨bb,o+k*7,none⟩=some (.int .i64 q.seq):=cc 0 _ rfl
   have c1:wr.cell? ⟨bb,o+k*7+1,none⟩=some (.bool q.st):=cc 1 _ rfl
   have c2:wr.cell? ⟨bb,o+k*7+2,none⟩=some (.bool q.kn):=cc 2 _ rfl
   have c3:wr.cell? ⟨bb,o+k*7+3,none⟩=some (.int .u32 q.pl):=cc 3 _ rfl
   have c4:wr.cell? ⟨bb,o+k*7+4,none⟩=some (.int .i64 q.many):=cc 4 _ rfl
   have c5:wr.cell? ⟨bb,o+k*7+5,none⟩=some (.int .u32 q.data):=cc 5 _ rfl
   have c6:wr.cell? ⟨bb,o+k*7+6,none⟩=some (.bool q.done):=cc 6 _ rfl
   have HQ:Hid (l[k]?=some q):=hq
   clear hq cc
   go_upto_region 8 with fail
   refine zj (Φ:=fun W=>Aq _ _ _ _ W) ?_
   intro V hV hVb
   have BV:Hid (Box V wr.heap.size q):=hV
   have HBV:Hid (Below W.heap.size W V):=HB.out.trans (hVb.mono HB.out.size)
   clear hV hVb HB c0 c1 c2 c3 c4 c5 c6
   have hbV:bb<V.heap.size:=Ah hbb HBV.out.size
   have hwV:w.heap.size<V.heap.size:=Ah hwW HBV.out.size
   have cs:V.cell? ⟨w.heap.size,0,none⟩=some (.int .i64 seq):=(HBV.out.cell (p:=⟨w.heap.size,0,none⟩) hwW).trans HCS.out
   have ss:∀j u,(cel s)[j]?=some u->V.cell? ⟨bb,o+(m*7+j),none⟩=some u:=fun j u hj=>(HBV.out.cell (p:=⟨bb,o+(m*7+j),none⟩) hbb).trans (HCW.out _ _ (yj _ _ _ _ _ hs.out hj))
   have s0:V.cell? ⟨bb,o+m*7,none⟩=some (.int .i64 s.seq):=ss 0 _ rfl
   have s1:V.cell? ⟨bb,o+m*7+1,none⟩=some (.bool s.st):=ss 1 _ rfl
   have s2:V.cell? ⟨bb,o+m*7+2,none⟩=some (.bool s.kn):=ss 2 _ rfl
   have s3:V.cell? ⟨bb,o+m*7+3,none⟩=some (.int .u32 s.pl):=ss 3 _ rfl
   have s4:V.cell? ⟨bb,o+m*7+4,none⟩=some (.int .i64 s.many):=ss 4 _ rfl
   have s5:V.cell? ⟨bb,o+m*7+5,none⟩=some (.int .u32 s.data):=ss 5 _ rfl
   have s6:V.cell? ⟨bb,o+m*7+6,none⟩=some (.bool s.done):=ss 6 _ rfl
   clear ss
   have C1:=fun w=>zhp q seq w
   have C2:=fun w=>zhq s q hso hqo w
   cases hov:ovr seq q with
   |false=>
    rw[hov]at C1
    have HN:Hid (Told (lst l s (k+1)) y f):=by rw[zkc HQ.out (by rw[hsq.out,hov];rfl)];exact HT
    clear hov C2
    refine Af (S:=fun w'=>Below V.heap.size V w') (by kernel_rfl) ((Ag _ _).drew) (fun hH=>?_)
    refine Co.tH 0 (acv q) rfl (zb (by rfl) 135 _ rfl _ rfl 135 _ (0,0) _ (fun w hSw=>(BV.out).below (Aa _) hSw) underlying135 rfl qZ) hH ?_;go_simp
    refine Co.tH 1 (.int .i64 seq) rfl (Or.inl ⟨by rfl,by intro wz hSw;have h0:=(hSw.cell (p:=⟨w.heap.size,0,none⟩) hwV).trans cs;go_simp⟩) hH ?_;go_simp
    refine Ae (rs:=[2]) (by kernel_rfl) (by simp) ?_
    refine Ab rfl (fun K hK=>?_) Ad
    go_simp
    refine(C1 _).mono ?_
    rintro e W1 ⟨rfl,hk⟩
    go_wp2_with fail
    refine hK.out _ _ (hH.trans (hk.mono hH.size)) (fun hH=>?_)
    clear hK K hk
    try go_simp
    refine Co.tI 3 (.bool false) ?_;go_simp
    refine Co.tN 4 ?_;go_simp
    refine Co.tN 5 ?_;go_simp
    refine Co.tN 6 ?_;go_simp
    refine Co.tN 7 ?_;go_simp
    refine Co.tN 8 ?_;go_simp
    refine Co.tN 9 ?_;go_simp
    refine Co.tI 10 (.bool false) ?_;go_simp
    refine Co.tI 11 (.bool false) ?_;go_simp
    refine Co.tN 12 ?_;go_simp
    refine Co.tN 13 ?_;go_simp
    refine Co.tN 14 ?_;go_simp
    refine Co.tN 15 ?_;go_simp
    refine Co.tN 16 ?_;go_simp
    refine Co.tN 17 ?_;go_simp
    refine Co.tN 18 ?_;go_simp
    refine Co.tN 19 ?_;go_simp
    refine Co.tI 20 (.bool false) ?_;go_simp
    refine Ai (by kernel_rfl) ?_ _
    try go_simp
    have HF:Hid (Below W.heap.size W W1):=HBV.out.trans (hH.mono HBV.out.size)
    have c0:W1.cell? ⟨wr.heap.size,0,none⟩=some (.int .i64 q.seq):=(BV.out.below (Aa _) hH).cell rfl
    clear hH
    go_wp2_with fail
    exact⟨⟨k+1,_,_,by omega,by go_num,rfl,rfl,HN,HF⟩,by simp[intOf];omega⟩
   |true=>
    rw[hov]at C1
    have HO:Hid (ovr s.seq q=true):=by rw[hsq.out];exact hov
    clear hov
    cases hmt:mt s q with
    |false=>
     rw[hmt]at C2
     have HN:Hid (Told (lst l s (k+1)) y f):=by rw[zkc HQ.out (by rw[hmt];simp)];exact HT
     clear hmt
     refine Af (S:=fun w'=>Below V.heap.size V w') (by kernel_rfl) ((Ag _ _).drew) (fun hH=>?_)
     refine Co.tH 0 (acv q) rfl (zb (by rfl) 135 _ rfl _ rfl 135 _ (0,0) _ (fun w hSw=>(BV.out).below (Aa _) hSw) underlying135 rfl qZ) hH ?_;go_simp
     refine Co.tH 1 (.int .i64 seq) rfl (Or.inl ⟨by rfl,by intro wz hSw;have h0:=(hSw.cell (p:=⟨w.heap.size,0,none⟩) hwV).trans cs;go_simp⟩) hH ?_;go_simp
     refine Ae (rs:=[2]) (by kernel_rfl) (by simp) ?_
     refine Ab rfl (fun K hK=>?_) Ad
     go_simp
     refine(C1 _).mono ?_
     rintro e W1 ⟨rfl,hk⟩
     go_wp2_with fail
     refine hK.out _ _ (hH.trans (hk.mono hH.size)) (fun hH=>?_)
     clear hK K hk
     try go_simp
     refine Co.tI 3 (.bool true) ?_;go_simp
     refine Co.tI 4 (.slice (some ⟨bb,o,none⟩) n c) ?_;go_simp
     refine Co.tI 5 (.int .i64 m) ?_;go_simp
     refine Co.tI 6 (.pointer (some ⟨bb,o+m*7,none⟩)) ?_;go_simp
     refine Co.tH 7 (acv s) rfl (Or.inl ⟨by rfl,by intro wz hSw;have h0:=(hSw.cell (p:=⟨bb,o+m*7,none⟩) hbV).trans s0;have h1:=(hSw.cell (p:=⟨bb,o+m*7+1,none⟩) hbV).trans s1;have h2:=(hSw.cell (p:=⟨bb,o+m*7+2,none⟩) hbV).trans s2;have h3:=(hSw.cell (p:=⟨bb,o+m*7+3,none⟩) hbV).trans s3;have h4:=(hSw.cell (p:=⟨bb,o+m*7+4,none⟩) hbV).trans s4;have h5:=(hSw.cell (p:=⟨bb,o+m*7+5,none⟩) hbV).trans s5;have h6:=(hSw.cell (p:=⟨bb,o+m*7+6,none⟩) hbV).trans s6;go_simp⟩) hH ?_;go_simp
     refine Co.tH 8 (acv q) rfl (zb (by rfl) 135 _ rfl _ rfl 135 _ (0,0) _ (fun w hSw=>(BV.out).below (Aa _) hSw) underlying135 rfl qZ) hH ?_;go_simp
     refine Ae (rs:=[9]) (by kernel_rfl) (by simp) ?_
     refine Ab rfl (fun K hK=>?_) Ad
     go_simp
     refine(C2 _).mono ?_
     rintro e W2 ⟨rfl,hk⟩
     go_wp2_with fail
     refine hK.out _ _ (hH.trans (hk.mono hH.size)) (fun hH=>?_)
     clear hK K hk
     try go_simp
     refine Co.tI 10 (.bool false) ?_;go_simp
     refine Co.tI 11 (.bool false) ?_;go_simp
     refine Co.tN 12 ?_;go_simp
     refine Co.tN 13 ?_;go_simp
     refine Co.tN 14 ?_;go_simp
     refine Co.tN 15 ?_;go_simp
     refine Co.tN 16 ?_;go_simp
     refine Co.tN 17 ?_;go_simp
     refine Co.tN 18 ?_;go_simp
     refine Co.tN 19 ?_;go_simp
     refine Co.tI 20 (.bool false) ?_;go_simp
     refine Ai (by kernel_rfl) ?_ _
     try go_simp
     have HF:Hid (Below W.heap.size W W2):=HBV.out.trans (hH.mono HBV.out.size)
     have c0:W2.cell? ⟨wr.heap.size,0,none⟩=some (.int .i64 q.seq):=(BV.out.below (Aa _) hH).cell rfl
     clear hH
     go_wp2_with fail
     exact⟨⟨k+1,_,_,by omega,by go_num,rfl,rfl,HN,HF⟩,by simp[intOf];omega⟩
    |true=>
     rw[hmt]at C2
     have HG:Hid ((ovr s.seq q&&mt s q)=true):=by rw[HO.out,hmt];rfl
     clear hmt HO
     cases hls:lst l s k with
     |none=>
      rw[hls]at HT
      obtain⟨rfl,rfl⟩:=HT.out.none'
      have HN:Hid (Told (lst l s (k+1)) q.seq true):=vI (zgs HQ.out HG.out hls)
      clear hls HT
      refine Af (S:=fun w'=>Below V.heap.size V w') (by kernel_rfl) ((Ag _ _).drew) (fun hH=>?_)
      refine Co.tH 0 (acv q) rfl (zb (by rfl) 135 _ rfl _ rfl 135 _ (0,0) _ (fun w hSw=>(BV.out).below (Aa _) hSw) underlying135 rfl qZ) hH ?_;go_simp
      refine Co.tH 1 (.int .i64 seq) rfl (Or.inl ⟨by rfl,by intro wz hSw;have h0:=(hSw.cell (p:=⟨w.heap.size,0,none⟩) hwV).trans cs;go_simp⟩) hH ?_;go_simp
      refine Ae (rs:=[2]) (by kernel_rfl) (by simp) ?_
      refine Ab rfl (fun K hK=>?_) Ad
      go_simp
      refine(C1 _).mono ?_
      rintro e W1 ⟨rfl,hk⟩
      go_wp2_with fail
      refine hK.out _ _ (hH.trans (hk.mono hH.size)) (fun hH=>?_)
      clear hK K hk
      try go_simp
      refine Co.tI 3 (.bool true) ?_;go_simp
      refine Co.tI 4 (.slice (some ⟨bb,o,none⟩) n c) ?_;go_simp
      refine Co.tI 5 (.int .i64 m) ?_;go_simp
      refine Co.tI 6 (.pointer (some ⟨bb,o+m*7,none⟩)) ?_;go_simp
      refine Co.tH 7 (acv s) rfl (Or.inl ⟨by rfl,by intro wz hSw;have h0:=(hSw.cell (p:=⟨bb,o+m*7,none⟩) hbV).trans s0;have h1:=(hSw.cell (p:=⟨bb,o+m*7+1,none⟩) hbV).trans s1;have h2:=(hSw.cell (p:=⟨bb,o+m*7+2,none⟩) hbV).trans s2;have h3:=(hSw.cell (p:=⟨bb,o+m*7+3,none⟩) hbV).trans s3;have h4:=(hSw.cell (p:=⟨bb,o+m*7+4,none⟩) hbV).trans s4;have h5:=(hSw.cell (p:=⟨bb,o+m*7+5,none⟩) hbV).trans s5;have h6:=(hSw.cell (p:=⟨bb,o+m*7+6,none⟩) hbV).trans s6;go_simp⟩) hH ?_;go_simp
      refine Co.tH 8 (acv q) rfl (zb (by rfl) 135 _ rfl _ rfl 135 _ (0,0) _ (fun w hSw=>(BV.out).below (Aa _) hSw) underlying135 rfl qZ) hH ?_;go_simp
      refine Ae (rs:=[9]) (by kernel_rfl) (by simp) ?_
      refine Ab rfl (fun K hK=>?_) Ad
      go_simp
      refine(C2 _).mono ?_
      rintro e W2 ⟨rfl,hk⟩
      go_wp2_with fail
      refine hK.out _ _ (hH.trans (hk.mono hH.size)) (fun hH=>?_)
      clear hK K hk
      try go_simp
      refine Co.tI 10 (.bool true) ?_;go_simp
      refine Co.tI 11 (.bool true) ?_;go_simp
      refine Co.tI 12 (.bool false) ?_;go_simp
      refine Co.tI 13 (.bool true) ?_;go_simp
      refine Co.tI 14 (.bool true) ?_;go_simp
      refine Co.tN 15 ?_;go_simp
      refine Co.tN 16 ?_;go_simp
      refine Co.tN 17 ?_;go_simp
      refine Co.tN 18 ?_;go_simp
      refine Co.tI 19 (.bool true) ?_;go_simp
      refine Co.tI 20 (.bool true) ?_;go_simp
      refine Ai (by kernel_rfl) ?_ _
      try go_simp
      have HF:Hid (Below W.heap.size W W2):=HBV.out.trans (hH.mono HBV.out.size)
      have c0:W2.cell? ⟨wr.heap.size,0,none⟩=some (.int .i64 q.seq):=(BV.out.below (Aa _) hH).cell rfl
      clear hH
      go_wp2_with fail
      exact⟨⟨k+1,_,_,by omega,by go_num,rfl,rfl,HN,HF⟩,by simp[intOf];omega⟩
     |some z=>
      rw[hls]at HT
      obtain⟨rfl,rfl⟩:=HT.out.some'
      have HS:Hid (lst l s k=some y):=hls
      clear hls HT
      by_cases hle:q.seq<y
      case' pos=>
       have HN:Hid (Told (lst l s (k+1)) q.seq true):=vI (ziO HQ.out HG.out HS.out hle)
       refine Af (S:=fun w'=>Below V.heap.size V w') (by kernel_rfl) ((Ag _ _).drew) (fun hH=>?_)
       refine Co.tH 0 (acv q) rfl (zb (by rfl) 135 _ rfl _ rfl 135 _ (0,0) _ (fun w hSw=>(BV.out).below (Aa _) hSw) underlying135 rfl qZ) hH ?_;go_simp
       refine Co.tH 1 (.int .i64 seq) rfl (Or.inl ⟨by rfl,by intro wz hSw;have h0:=(hSw.cell (p:=⟨w.heap.size,0,none⟩) hwV).trans cs;go_simp⟩) hH ?_;go_simp
       refine Ae (rs:=[2]) (by kernel_rfl) (by simp) ?_
       refine Ab rfl (fun K hK=>?_) Ad
       go_simp
       refine(C1 _).mono ?_
       rintro e W1 ⟨rfl,hk⟩
       go_wp2_with fail
       refine hK.out _ _ (hH.trans (hk.mono hH.size)) (fun hH=>?_)
       clear hK K hk
       try go_simp
       refine Co.tI 3 (.bool true) ?_;go_simp
       refine Co.tI 4 (.slice (some ⟨bb,o,none⟩) n c) ?_;go_simp
       refine Co.tI 5 (.int .i64 m) ?_;go_simp
       refine Co.tI 6 (.pointer (some ⟨bb,o+m*7,none⟩)) ?_;go_simp
       refine Co.tH 7 (acv s) rfl (Or.inl ⟨by rfl,by intro wz hSw;have h0:=(hSw.cell (p:=⟨bb,o+m*7,none⟩) hbV).trans s0;have h1:=(hSw.cell (p:=⟨bb,o+m*7+1,none⟩) hbV).trans s1;have h2:=(hSw.cell (p:=⟨bb,o+m*7+2,none⟩) hbV).trans s2;have h3:=(hSw.cell (p:=⟨bb,o+m*7+3,none⟩) hbV).trans s3;have h4:=(hSw.cell (p:=⟨bb,o+m*7+4,none⟩) hbV).trans s4;have h5:=(hSw.cell (p:=⟨bb,o+m*7+5,none⟩) hbV).trans s5;have h6:=(hSw.cell (p:=⟨bb,o+m*7+6,none⟩) hbV).trans s6;go_simp⟩) hH ?_;go_simp
       refine Co.tH 8 (acv q) rfl (zb (by rfl) 135 _ rfl _ rfl 135 _ (0,0) _ (fun w hSw=>(BV.out).below (Aa _) hSw) underlying135 rfl qZ) hH ?_;go_simp
       refine Ae (rs:=[9]) (by kernel_rfl) (by simp) ?_
       refine Ab rfl (fun K hK=>?_) Ad
       go_simp
       refine(C2 _).mono ?_
       rintro e W2 ⟨rfl,hk⟩
       go_wp2_with fail
       refine hK.out _ _ (hH.trans (hk.mono hH.size)) (fun hH=>?_)
       clear hK K hk
       try go_simp
       refine Co.tI 10 (.bool true) ?_;go_simp
       refine Co.tI 11 (.bool true) ?_;go_simp
       refine Co.tI 12 (.bool true) ?_;go_simp
       refine Co.tI 13 (.bool false) ?_;go_simp
       refine Co.tI 14 (.bool false) ?_;go_simp
       refine Co.tI 15 (.pointer (some ⟨wr.heap.size,0,none⟩)) ?_;go_simp
       refine Co.tH 16 (.int .i64 q.seq) rfl (Or.inl ⟨by rfl,by intro wz hSw;have h2:=(BV.out.below (Aa _) hSw).cell (j:=0) rfl;go_simp⟩) hH ?_;go_simp
       refine Co.tI 17 (.int .i64 y) ?_;go_simp
       refine Co.tI 18 (.bool true) ?_;go_simp
       refine Co.tI 19 (.bool true) ?_;go_simp
       refine Co.tI 20 (.bool true) ?_;go_simp
      case' neg=>
       have HN:Hid (Told (lst l s (k+1)) y true):=vI ((ziP HQ.out HS.out (by omega)).trans HS.out)
       refine Af (S:=fun w'=>Below V.heap.size V w') (by kernel_rfl) ((Ag _ _).drew) (fun hH=>?_)
       refine Co.tH 0 (acv q) rfl (zb (by rfl) 135 _ rfl _ rfl 135 _ (0,0) _ (fun w hSw=>(BV.out).below (Aa _) hSw) underlying135 rfl qZ) hH ?_;go_simp
       refine Co.tH 1 (.int .i64 seq) rfl (Or.inl ⟨by rfl,by intro wz hSw;have h0:=(hSw.cell (p:=⟨w.heap.size,0,none⟩) hwV).trans cs;go_simp⟩) hH ?_;go_simp
       refine Ae (rs:=[2]) (by kernel_rfl) (by simp) ?_
       refine Ab rfl (fun K hK=>?_) Ad
       go_simp
       refine(C1 _).mono ?_
       rintro e W1 ⟨rfl,hk⟩
       go_wp2_with fail
       refine hK.out _ _ (hH.trans (hk.mono hH.size)) (fun hH=>?_)
       clear hK K hk
       try go_simp
       refine Co.tI 3 (.bool true) ?_;go_simp
       refine Co.tI 4 (.slice (some ⟨bb,o,none⟩) n c) ?_;go_simp
       refine Co.tI 5 (.int .i64 m) ?_;go_simp
       refine Co.tI 6 (.pointer (some ⟨bb,o+m*7,none⟩)) ?_;go_simp
       refine Co.tH 7 (acv s) rfl (Or.inl ⟨by rfl,by intro wz hSw;have h0:=(hSw.cell (p:=⟨bb,o+m*7,none⟩) hbV).trans s0;have h1:=(hSw.cell (p:=⟨bb,o+m*7+1,none⟩) hbV).trans s1;have h2:=(hSw.cell (p:=⟨bb,o+m*7+2,none⟩) hbV).trans s2;have h3:=(hSw.cell (p:=⟨bb,o+m*7+3,none⟩) hbV).trans s3;have h4:=(hSw.cell (p:=⟨bb,o+m*7+4,none⟩) hbV).trans s4;have h5:=(hSw.cell (p:=⟨bb,o+m*7+5,none⟩) hbV).trans s5;have h6:=(hSw.cell (p:=⟨bb,o+m*7+6,none⟩) hbV).trans s6;go_simp⟩) hH ?_;go_simp
       refine Co.tH 8 (acv q) rfl (zb (by rfl) 135 _ rfl _ rfl 135 _ (0,0) _ (fun w hSw=>(BV.out).below (Aa _) hSw) underlying135 rfl qZ) hH ?_;go_simp
       refine Ae (rs:=[9]) (by kernel_rfl) (by simp) ?_
       refine Ab rfl (fun K hK=>?_) Ad
       go_simp
       refine(C2 _).mono ?_
       rintro e W2 ⟨rfl,hk⟩
       go_wp2_with fail
       refine hK.out _ _ (hH.trans (hk.mono hH.size)) (fun hH=>?_)
       clear hK K hk
       try go_simp
       refine Co.tI 10 (.bool true) ?_;go_simp
       refine Co.tI 11 (.bool true) ?_;go_simp
       refine Co.tI 12 (.bool true) ?_;go_simp
       refine Co.tI 13 (.bool false) ?_;go_simp
       refine Co.tI 14 (.bool false) ?_;go_simp
       refine Co.tI 15 (.pointer (some ⟨wr.heap.size,0,none⟩)) ?_;go_simp
       refine Co.tH 16 (.int .i64 q.seq) rfl (Or.inl ⟨by rfl,by intro wz hSw;have h2:=(BV.out.below (Aa _) hSw).cell (j:=0) rfl;go_simp⟩) hH ?_;go_simp
       refine Co.tI 17 (.int .i64 y) ?_;go_simp
       refine Co.tI 18 (.bool false) ?_;go_simp
       refine Co.tI 19 (.bool false) ?_;go_simp
       refine Co.tI 20 (.bool false) ?_;go_simp
      all_goals
       refine Ai (by kernel_rfl) ?_ _
       try go_simp
       have HF:Hid (Below W.heap.size W W2):=HBV.out.trans (hH.mono HBV.out.size)
       have c0:W2.cell? ⟨wr.heap.size,0,none⟩=some (.int .i64 q.seq):=(BV.out.below (Aa _) hH).cell rfl
       clear hH
       go_wp2_with fail
       exact⟨⟨k+1,_,_,by omega,by go_num,rfl,rfl,HN,HF⟩,by simp[intOf];omega⟩
  ·obtain rfl:k=n:=by omega
   obtain⟨rfl,rfl⟩:y0=y/\f0=f:=⟨hT.out.2.trans HT.out.2.symm,hT.out.1.trans HT.out.1.symm⟩
   have HF:Hid (Below w.heap.size w wr):=HW.out.trans (HB.out.mono HW.out.size)
   go_wp2_with fail
   refine Am (v:=.tuple #[.int .i64 y0,.bool f0]) ?_ rfl ⟨rfl,HF.out⟩
   simp[results,results160,asAddr]
theorem zo{P:Program}{ops:Array Oper}{rest:List Oper}{o:Oper}{a:Act}{w:World}{Q:Exit->Act->World->Prop}(hw:Region.wanted o (yielded ops a.tmps)=true)(ty:TypeId)(x:Operand)(ho:o.op=.load ty x)
  (g:Nat) (hx:a.eval x=.pointer (some ⟨g,0,none⟩)) (t:TypeId) (cs:Array Value) (fr:Nat×Nat) (d:TypeDesc) (hg:w.heap[g]?=some (.cells cs t fr))
  (hu:P.underlying ty=some d) (hd:(match d with|.struct _|.array _ _=>true|_=>false)=true) (hi:(P.info? ty).map (·.size)=some cs.size)
  (h:wpList P ops Q rest (a.put o.dst (.agg cs)) w):wpList P ops Q (o::rest) a w:=by
 unfold wpList
 rw[if_pos hw]
 exact Or.inl (wp_load_row ty x ho g hx t cs fr d hg hu hd hi h)
end Go.Proofs.YtpiohehijkpghacGreatDoor.Od
