/- What the joined texts lack. -/
import Derived.Test.YtpiohehijkpghacGreatDoorD30
open Go renaming cell_of_row->Ad
open Go.Lib renaming run_eql_slice_nil->WZ
open Go.RowKit.Below renaming refl->Ab
open Nat renaming le_refl->Aa,zero_le->Ae
set_option maxHeartbeats 1000000
set_option maxRecDepth 20000
set_option linter.unusedSimpArgs false
set_option linter.unusedVariables false
open Go.Proofs.Tryz
namespace Go.Proofs.YtpiohehijkpghacGreatDoor
open Go.RowKit
open Hy
theorem Fr.moved{w w':World}{B B' h n:Nat}{f:Nat->Int}(H:Fr w B h n f)(hB:B'<=h)(hh:w'.heap[h]?=w.heap[h]?)(hs:w.heap.size<=w'.heap.size):Fr w' B' h n f:=
 ⟨hB,Nat.lt_of_lt_of_le H.lt hs,fun i hi=>(World.cell?_of_block (w:=w) (a:=⟨h,i,none⟩) hh).trans (H.cell i hi),fun i hi=>(World.frozen?_of_block (w:=w) (a:=⟨h,i,none⟩) hh).trans (H.free i hi)⟩
theorem zmB{α:Type}{cs:Array α}(h:cs.size=11):∃c0 c1 c2 c3 c4 c5 c6 c7 c8 c9 c10,cs=#[c0,c1,c2,c3,c4,c5,c6,c7,c8,c9,c10]:=by
 obtain⟨l⟩:=cs
 match l,h with
 |[c0,c1,c2,c3,c4,c5,c6,c7,c8,c9,c10],_=>exact⟨c0,c1,c2,c3,c4,c5,c6,c7,c8,c9,c10,rfl⟩
theorem zT{H:Array Value}(h:H.size=35):(prog.info? 27).map (·.size)=some H.size:=by rw[zp,h]
theorem Mem.ofFr{w:World}{B h n:Nat}{f:Nat->Int}(H:Fr w B h n f):Mem w (some ⟨h,0,none⟩) n f:=fun _=>⟨h,0,rfl,fun i hi=>by rw[Nat.zero_add];exact H.cell i hi⟩
def Own(w:World)(B:Nat)(p:Option Addr)(n:Nat)(f:Nat->Int):Prop:=0<n->∃h,p=some ⟨h,0,none⟩/\Fr w B h n f
theorem Own.mem{w:World}{B:Nat}{p:Option Addr}{n:Nat}{f:Nat->Int}(h:Own w B p n f):Mem w p n f:=fun h0=>by
 obtain⟨g,rfl,hf⟩:=h h0
 exact Mem.ofFr hf h0
theorem zfO(ad:Addr)(c:Nat)(w:World):
  Calls prog 35 #[.slice (some ad) 0 c] w fun e w'=>(∃p' cap,e=.returned (.slice p' 0 cap))/\Below w.heap.size w w':=by
 obtain⟨i0,hi,hz0,hz1,hz2⟩:=info_parts zm4
 have q22:∀(w:World) (a:Option Addr) (n c n' c':Nat),(binOp .eql 28 (.slice a n c) (.slice none n' c')).run prog w=.ok (.bool a.isNone) w:=fun w a n c n' c'=>WZ w _ _ a n c n' c' underlying28
 go_enter func35,ntmps35
 go_wp2_with(at_builtin;refine wpList_append_own _ rfl _ _ 28 rfl w.heap.size 5 i0 (.int .u8 0) 1 1 underlying28 hi hz0 hz1 hz2 rfl (by decide) _ _ _ rfl (World.ownsRow_made w #[] 0 (Aa _) (Ae _) rfl) ad 0 c [] rfl ?qc1 ?qc2 ?qc3 ?qc4 ?qc5 ?qc6 ?_)
 case qc1=>simp
 case qc2=>intro j u hj;simp at hj
 case qc3=>intro u hu;cases hu
 case qc4=>unfold maxLen;omega
 case qc5=>omega
 case qc6=>simp
 intro v' w1 hown hgrow hnil
 obtain⟨p',cap,hv⟩:∃p' cap,v'=.slice p' 0 cap:=by
  obtain⟨_,hcase⟩:=hown
  rcases hcase with⟨h,_⟩|⟨g,cap',cur,h,_⟩
  ·exact⟨none,0,h⟩
  ·exact⟨_,_,h⟩
 subst hv
 go_wp2
 go_ret
 exact⟨⟨p',cap,rfl⟩,((Ab _ w).alloc (Aa _) _).grown hgrow (by simp) (by intro k hk;simp[Value.ownBlock]at hk;omega)⟩
theorem zfP(c:Nat)(w:World):
  Calls prog 35 #[.slice none 0 c] w fun e w'=>(∃p' cap,e=.returned (.slice p' 0 cap))/\Below w.heap.size w w':=by
 have q22:∀(w:World) (a:Option Addr) (n c n' c':Nat),(binOp .eql 28 (.slice a n c) (.slice none n' c')).run prog w=.ok (.bool a.isNone) w:=fun w a n c n' c'=>WZ w _ _ a n c n' c' underlying28
 go_enter func35,ntmps35
 go_wp2
 go_ret
 exact⟨⟨none,0,rfl⟩,Ab _ _⟩
theorem zkE(p:Option Addr)(n c:Nat)(f:Nat->Int)(hn:n<=4096)(w:World)(hm:Mem w p n f):
  Calls prog 35 #[.slice p n c] w fun e w'=>(∃p' cap,e=.returned (.slice p' n cap)/\n<=cap/\(0<n->∃h,p'=some ⟨h,0,none⟩/\Fr w' w.heap.size h n f))/\Below w.heap.size w w':=by
 rcases Nat.eq_zero_or_pos n with rfl|h0
 ·cases p with
  |none=>exact(zfP c w).mono fun e w' ⟨⟨p',cap,he⟩,hb⟩=>⟨⟨p',cap,he,Ae _,fun h=>absurd h (by omega)⟩,hb⟩
  |some ad=>exact(zfO ad c w).mono fun e w' ⟨⟨p',cap,he⟩,hb⟩=>⟨⟨p',cap,he,Ae _,fun h=>absurd h (by omega)⟩,hb⟩
 ·obtain⟨g,o,rfl,hl⟩:=hm h0
  exact(ve g o n c f h0 (by omega) w hl).mono fun e w' ⟨⟨h,cap,he,h1,_,hF⟩,hb⟩=>⟨⟨_,cap,he,h1,fun _=>⟨h,rfl,hF⟩⟩,hb⟩
theorem zmC(p:Option Addr)(n c:Nat)(f:Nat->Int)(hn:n<=4096)(pc next st ca rd v at_ data told:Int)(out:Bool)(w:World)(hm:Mem w p n f):
  Calls prog 67 #[.slice p n c,cv pc next st ca rd v at_ 0 data out told] w fun e w'=>(∃p' cap,e=.returned (.slice p' n cap)/\n<=cap/\Own w' w.heap.size p' n f)/\Below w.heap.size w w':=by
 have C:=zkE p n c f hn (w.alloc (.cells (ccs pc next st ca rd v at_ 0 data out told) 68)) (hm.below ((Ab _ _).alloc (Aa _) _))
 go_enter func67,ntmps67
 go_wp2_with fail
 refine C.mono ?_
 rintro e w2 ⟨⟨p',cap,rfl,hcap,hF⟩,hk⟩
 have hs:=hk.size
 simp at hs
 have hr:=(hk.block w.heap.size (by simp)).trans (heap_alloc_new _ _)
 have k7:=(Ad w2 w.heap.size 7 _ _ _ hr).trans rfl
 have hb:Below w.heap.size w w2:=((Ab _ _).alloc (Aa _) _).trans (hk.mono (by simp))
 have HM:Hid (Own w2 w.heap.size p' n f):=fun h0=>by
  obtain⟨h,rfl,hf⟩:=hF h0
  exact⟨h,rfl,hf.moved (by have:=hf.base;simp at this;omega) rfl (Aa _)⟩
 clear hr hk hF C hm
 go_wp2_with fail
 go_loopw [6,11] (fun i k wr=>k=.int .i64 0/\wr=w2) (fun _ _ _=>0)
 case atStart=>exact⟨rfl,rfl⟩
 case round=>
  obtain⟨rfl,rfl⟩:=hrel
  go_wp2_with fail
  go_ret
  exact⟨⟨p',cap,rfl,hcap,HM.out⟩,hb⟩
theorem Fr.drew{w:World}{B h n:Nat}{f:Nat->Int}(H:Fr w B h n f):Fr w.drew B h n f:=H.moved H.base rfl (Aa _)
theorem zmD(g o n c:Nat)(f:Nat->Int)(hn:n<=4096)(a m:Nat)(hm:m=1\/m=2\/m=4)(ham:a+m<=n)(L:Int)(l0:0<=L)(l1:L<=4294967295)(pc next st ca rd v told:Int)(out:Bool)(w:World)(hl:Lies w g o n f):
  Calls prog 67 #[.slice (some ⟨g,o,none⟩) n c,cv pc next st ca rd v a m L out told] w fun e w'=>(∃p' cap,e=.returned (.slice p' n cap)/\n<=cap/\Own w' w.heap.size p' n (sto f a L m))/\Below w.heap.size w w':=by
 have C:=ve g o n c f (by omega) (by omega) (w.alloc (.cells (ccs pc next st ca rd v a m L out told) 68)) (hl.below ((Ab _ _).alloc (Aa _) _))
 go_enter func67,ntmps67
 go_wp2_with fail
 refine C.mono ?_
 rintro e w2 ⟨⟨h,cap,rfl,hcap,hmax,hF⟩,hk⟩
 have hs:=hk.size
 simp at hs
 have hr:=(hk.block w.heap.size (by simp)).trans (heap_alloc_new _ _)
 have k6:=(Ad w2 w.heap.size 6 _ _ _ hr).trans rfl
 have k7:=(Ad w2 w.heap.size 7 _ _ _ hr).trans rfl
 have k8:=(Ad w2 w.heap.size 8 _ _ _ hr).trans rfl
 have hb:Below w.heap.size w w2:=((Ab _ _).alloc (Aa _) _).trans (hk.mono (by simp))
 have hh:w.heap.size+1<=h:=by have:=hF.base;simpa using this
 have hF':Fr w2 (w.heap.size+1) h n f:=hF.moved hh rfl (Aa _)
 clear hr hk hF C hl
 go_wp2_with fail
 go_loopw [6,11] (fun i k wr=>∃j:Nat,j<=m/\k=.int .i64 j/\Fr wr (w.heap.size+1) h n (sto f a L j)/\Below (w.heap.size+1) w2 wr) (fun _ k _=>m-(intOf k).toNat)
 case atStart=>exact⟨0,by omega,rfl,hF'.congr fun i _=>by unfold sto;rw[if_neg (by omega)],Ab _ _⟩
 case round=>
  obtain⟨j,hj,rfl,hF,hB⟩:=hrel
  by_cases hlt:j<m
  ·have c0:=hF.cell (a+j) (by omega)
   have z0:=hF.free (a+j) (by omega)
   have m6:=jV hB (Nat.lt_succ_self _) k6
   have m8:=jV hB (Nat.lt_succ_self _) k8
   rcases(by omega:j=0\/j=1\/j=2\/j=3)with rfl|rfl|rfl|rfl
   ·rw[Nat.add_zero]at c0 z0
    go_wp2
    go_region
    go_wp2_with fail
    exact⟨⟨1,by omega,rfl,(hF.step (j:=0) (by omega) _ (by rw[show p256 0=1 from rfl,Int.ediv_one])).drew,(hB.setCell (by omega) _).drew⟩,by simp[intOf];omega⟩
   ·go_wp2
    go_region
    go_wp2_with fail
    exact⟨⟨2,by omega,rfl,(hF.step (j:=1) (by omega) _ (rfl)).drew,(hB.setCell (by omega) _).drew⟩,by simp[intOf];omega⟩
   ·go_wp2
    go_region
    go_wp2_with fail
    exact⟨⟨3,by omega,rfl,(hF.step (j:=2) (by omega) _ (rfl)).drew,(hB.setCell (by omega) _).drew⟩,by simp[intOf];omega⟩
   ·go_wp2
    go_region
    go_wp2_with fail
    exact⟨⟨4,by omega,rfl,(hF.step (j:=3) (by omega) _ (by rw[show p256 3=16777216 from rfl];omega)).drew,(hB.setCell (by omega) _).drew⟩,by simp[intOf];omega⟩
  ·obtain rfl:j=m:=by omega
   go_wp2_with fail
   go_ret
   exact⟨⟨some ⟨h,0,none⟩,cap,rfl,hcap,fun _=>⟨h,rfl,hF.moved (by omega) rfl (Aa _)⟩⟩,hb.trans (hB.mono (by omega))⟩
end Go.Proofs.YtpiohehijkpghacGreatDoor
