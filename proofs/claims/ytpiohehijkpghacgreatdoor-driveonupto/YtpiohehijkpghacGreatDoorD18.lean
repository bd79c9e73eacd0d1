/- What instructions do, as plain numbers: facts. Nothing of the program is named here. -/
import Derived.Test.YtpiohehijkpghacGreatDoorD17
open Go renaming wp_region_held_drew->Ae,bodyPost_ret->Af,wpList_store_row->Ah,wpAnyH_ready->Am,wpAnyH_done->An
open Go.AllReadyH renaming cons->Aj,nil->WZ
open Go.Code renaming wp->Ak
open Go.Ending renaming returned->Ao
open Go.RowKit.Below renaming refl->Ai
open Go.World renaming block_lt_of_cell?->Ag
open Int renaming toNat_natCast->Aa,toNat_of_nonneg->Ab
open Nat renaming le_refl->Ad
set_option maxHeartbeats 2000000
set_option maxRecDepth 20000
set_option linter.unusedSimpArgs false
set_option linter.unusedVariables false
open Go.Proofs.Tryz
namespace Go.Proofs.YtpiohehijkpghacGreatDoor.Od
open Go.Proofs.YtpiohehijkpghacGreatDoor.Wi
open Go.RowKit
open Hy
def mix(l:List Ac)(seq:Int)(n A m:Nat)(f:Nat->Int)(k:Nat):Nat->Int:=fun i=>if i<k then sb l seq n A f i else upto m (fun i=>f (A+i)) i
theorem zhr{l:List Ac}{seq:Int}{n A m ml:Nat}{f:Nat->Int}(hf:∀i,i<ml->0<=f i/\f i<=255)(h:A+m<=ml)(k:Nat)(hk:k<=m):∀i,0<=mix l seq n A m f k i/\mix l seq n A m f k i<=255:=by
 intro i
 unfold mix
 split
 ·exact zbG (hf _ (by omega))
 ·unfold upto
  split
  ·exact hf _ (by omega)
  ·omega
theorem zjt(l:List Ac)(seq:Int)(n A m:Nat)(f:Nat->Int)(hm:m=1\/m=2\/m=4):le (fun i=>f (A+i)) m=four (mix l seq n A m f 0):=by
 rw[zgt m hm]
 rfl
theorem zlK(l:List Ac)(seq:Int)(n A m:Nat)(f:Nat->Int)(hm:m=1\/m=2\/m=4):four (mix l seq n A m f m)=le (sb l seq n A f) m:=by
 rw[zgt m hm]
 rcases hm with rfl|rfl|rfl<;>simp[four,mix,upto]
theorem zju(l:List Ac)(seq:Int)(n A m:Nat)(f:Nat->Int)(k:Nat)(hk:k<m)(h:bst l seq ((A:Int)+k) n=none):four (mix l seq n A m f k)=four (mix l seq n A m f (k+1)):=by
 have e:mix l seq n A m f k=mix l seq n A m f (k+1):=by
  funext i
  unfold mix
  by_cases h1:i<k
  ·rw[if_pos h1,if_pos (by omega)]
  ·by_cases h2:i=k
   ·subst h2
    rw[if_neg (by omega),if_pos (by omega),upto,if_pos hk,sb,seen_none h]
   ·rw[if_neg h1,if_neg (by omega)]
 rw[e]
theorem zlL(l:List Ac)(seq:Int)(n A m:Nat)(f:Nat->Int)(k:Nat):put1 (mix l seq n A m f k) k (sb l seq n A f k)=mix l seq n A m f (k+1):=by
 funext i
 unfold put1 mix
 by_cases h2:i=k
 ·subst h2;rw[if_pos rfl,if_pos (by omega)]
 ·rw[if_neg h2]
  by_cases h1:i<k
  ·rw[if_pos h1,if_pos (by omega)]
  ·rw[if_neg h1,if_neg (by omega)]
theorem zcc{l:List Ac}{seq x m:Int}{n:Nat}(h:(bst l seq x n).isSome=true):seen l seq x 0 n=seen l seq x m n:=by
 cases hb:bst l seq x n with
 |none=>rw[hb]at h;cases h
 |some j=>
  obtain⟨_,q,hq,_⟩:=kd _ _ _ _ _ hb
  rw[ke hb hq,ke hb hq]
theorem znZ{many:Int}{A ml:Nat}(h:¬Fit many A ml):¬(0<ldn (ldo many)/\(A:Int)%ldn (ldo many)=0/\(A:Int)+ldn (ldo many)<=ml):=by
 intro⟨h1,h2,h3⟩
 by_cases hm:many=1\/many=2\/many=4
 ·have e:ldn (ldo many)=many:=by rcases hm with rfl|rfl|rfl<;>rfl
  rw[e]at h2 h3
  exact h ⟨hm,h2,h3⟩
 ·have e:ldo many=0:=by unfold ldo;rw[if_neg (by omega),if_neg (by omega),if_neg (by omega)]
  rw[e]at h1
  exact absurd h1 (by decide)
theorem zlM(a:Option Addr)(n c:Nat)(p:Option Addr)(ml mc:Nat)(seq many:Int)(A:Nat)(hA:A<=4294967295)(hml:ml<=140737488355328)(h:¬Fit many A ml)(w:World):
  Calls prog 86 #[.slice a n c,.slice p ml mc,.int .i64 seq,.int .u32 A,.int .i64 many] w fun e w'=>e=.returned (.tuple #[.int .u32 0,.bool false,.bool false])/\Below w.heap.size w w':=by
 have C1:=fun w=>zcb many w
 have C2:=fun w=>zgg p ml mc (ldo many) A hml (by omega) (by omega) (znZ h) w
 obtain⟨op,hop⟩:∃op,op=ldo many:=⟨_,rfl⟩
 rw[<-hop]at C1 C2
 clear h hop
 go_enter func86,ntmps86
 go_upto_region 1 with fail
 refine zj (Φ:=fun W=>Ak _ _ _ _ W) ?_
 intro V hV hVb
 have HB:Hid (Below w.heap.size w V):=hVb
 clear hV hVb
 go_wp2_with fail
 refine(C1 _).mono ?_
 rintro e w' ⟨rfl,rfl⟩
 go_wp2_with fail
 refine(C2 _).mono ?_
 rintro e w' ⟨rfl,rfl⟩
 clear C1 C2
 go_wp2_with fail
 refine Af (v:=.tuple #[.int .u32 0,.bool false,.bool false]) ?_ rfl ⟨rfl,HB.out⟩
 simp[results,results86,asAddr]
theorem zjv(a:Option Addr)(n c:Nat)(l:List Ac)(hok:Hid (∀q∈l,q.Ok))(g o ml mc:Nat)(hmc:ml<=mc)(f:Nat->Int)(seq:Int)(A m:Nat)(hA:A<=4294967295)(hml:ml<=140737488355328)(hm:m=1\/m=2\/m=4)(hA0:A%m=0)(hAm:A+m<=ml)(hfr:Hid (∀i,i<ml->0<=f i/\f i<=255))(R:Int)(hR:Hid (R=le (sb l seq n A f) m))(U:Bool)(hU:Hid (Sure l seq n U))(hn:n<=140737488355328)(w:World)(hL:Hid (LC w a n c 7 (acs l)))(hM:Hid (Lies w g o ml f))(hg:Hid (g<w.heap.size)):
  Calls prog 86 #[.slice a n c,.slice (some ⟨g,o,none⟩) ml mc,.int .i64 seq,.int .u32 A,.int .i64 m] w fun e w'=>e=.returned (.tuple #[.int .u32 R,.bool true,.bool U])/\Below w.heap.size w w':=by
 have hmf:∀(fn:Fn) (first cap:Array Value) (w:World),(Instr.makeFunc fn first cap).run prog w=.ok (.func fn first cap) w:=fun _ _ _ _=>rfl
 have hlen:Hid (l.length=n):=by have:=hL.out.len;rw[vf]at this;show _=_;omega
 have hAm4:A+m<=4294967296:=by rcases hm with rfl|rfl|rfl<;>omega
 have hm4:1<=m/\m<=4:=by omega
 have HM:Hid (m=1\/m=2\/m=4):=hm
 have C1:=fun w=>zcb m w
 have hld:ldn (ldo m)=(m:Int):=by rcases hm with rfl|rfl|rfl<;>rfl
 have hlv:ldv (ldo m) (fun i=>f (A+i))=four (mix l seq n A m f 0):=by
  rw[<-zjt l seq n A m f hm]
  rcases hm with rfl|rfl|rfl<;>rfl
 have C2:=fun w hc=>zdZ g o ml mc (ldo m) A m (fun i=>f (A+i)) hld hml (by omega) (by omega) hA0 hAm hmc w (fun i hi=>hfr.out _ (by omega)) hc
 rw[hlv]at C2
 obtain⟨op,hop⟩:∃op,op=ldo m:=⟨_,rfl⟩
 obtain⟨Z,hZ⟩:∃Z,Z=four (mix l seq n A m f 0):=⟨_,rfl⟩
 rw[<-hop]at C1 C2
 rw[<-hZ]at C2
 have HZ:Hid (Z=four (mix l seq n A m f 0)):=hZ
 clear hm hop hld hlv hZ hA0
 obtain⟨mU,hmU⟩:=kg (unk seq) l
 have HU:Hid (FirstA (unk seq) l mU):=hmU
 clear hmU
 go_enter func86,ntmps86
 go_upto_region 1 with fail
 refine zj (Φ:=fun W=>Ak _ _ _ _ W) ?_
 intro V hV hVb
 have HV:Hid (Below w.heap.size w V):=hVb
 have hgV:Hid (g<V.heap.size):=Nat.lt_of_lt_of_le hg.out hVb.size
 have hwV:w.heap.size<V.heap.size:=zk hV
 have HC:Hid (V.cell? ⟨w.heap.size,0,none⟩=some (.int .i64 seq)):=(cell_of_row _ _ _ _ _ _ hV).trans rfl
 have hLV:Hid (LC V a n c 7 (acs l)):=hL.out.below (Ad _) hVb
 have hMV:Hid (Lies V g o ml f):=fun i hi=>(hVb.cell (p:=⟨g,o+i,none⟩) hg.out).trans (hM.out i hi)
 clear hV hVb
 go_wp2_with fail
 refine(C1 _).mono ?_
 rintro e w' ⟨rfl,rfl⟩
 go_wp2_with fail
 refine(C2 _ (fun i hi=>by rw[Nat.add_assoc];exact hMV.out (A+i) (by omega))).mono ?_
 rintro e w' ⟨rfl,rfl⟩
 clear C1 C2
 go_wp2_with fail
 go_loopw [13,29] (fun t i wr=>∃(k:Nat) (Y:Int),k<=m/\i=.int .i64 k/\t=.int .u32 Y/\Hid (Y=four (mix l seq n A m f k))/\Hid (Below w'.heap.size w' wr))
  (fun _ i _=>m-(intOf i).toNat)
 case atStart=>exact⟨0,Z,by omega,rfl,rfl,HZ,Ai _ _⟩
 case round=>
  obtain⟨k,Y,hk,rfl,rfl,HY,HB⟩:=hrel
  have cs:wr.cell? ⟨w.heap.size,0,none⟩=some (.int .i64 seq):=(HB.out.cell (p:=⟨w.heap.size,0,none⟩) hwV).trans HC.out
  have hLr:Hid (LC wr a n c 7 (acs l)):=hLV.out.below (Ad _) HB.out
  by_cases hlt:k<m
  ·obtain⟨r,hr⟩:∃r,Hid (r=seen l seq ((A:Int)+k) 0 n):=⟨_,rfl⟩
   obtain⟨F,hF⟩:∃F,Hid (F=(bst l seq ((A:Int)+k) n).isSome):=⟨_,rfl⟩
   have C:=fun w hL=>zdk a n c seq ((A:Int)+k) l hok (by omega) (by omega) r F hr hF hn w hL
   cases hFF:F with
   |false=>
    subst hFF
    have HN:Hid (Y=four (mix l seq n A m f (k+1))):=by
     show _=_
     rw[HY.out,zju l seq n A m f k hlt ?_]
     cases hb:bst l seq ((A:Int)+k) n with
     |none=>rfl
     |some j=>have:=hF.out;rw[hb]at this;cases this
    go_wp2_with fail
    refine(C _ hLr).mono ?_
    rintro e W1 ⟨rfl,hk1⟩
    have HF1:Hid (Below w'.heap.size w' W1):=HB.out.trans (hk1.mono HB.out.size)
    clear hk1 C
    go_wp2_with fail
    exact⟨⟨k+1,_,by omega,by go_num,rfl,HN,HF1⟩,by simp[intOf];omega⟩
   |true=>
    subst hFF
    have hr2:0<=r/\r<=255:=by rw[hr.out];exact zd2 _ _ _ _ _ ⟨by omega,by omega⟩
    have hYr:0<=Y/\Y<4294967296:=by
     rw[HY.out]
     have h:=zhr (l:=l) (seq:=seq) (n:=n) hfr.out hAm k (by omega)
     have h0:=h 0
     have h1:=h 1
     have h2:=h 2
     have h3:=h 3
     unfold four
     omega
    have HN:∀P:Int,P=((2^(8*k):Nat):Int)->Hid (bits .or .u32 (bits .andNot .u32 Y (255*P)) (r*P)=four (mix l seq n A m f (k+1))):=fun P hP=>by
     show _=_
     rw[ziR k (mix l seq n A m f k) r Y P (by omega) hP (zhr hfr.out hAm k (by omega)) hr2.1 hr2.2 HY.out]
     rw[show r=sb l seq n A f k from hr.out.trans (zcc hF.out.symm),zlL]
    go_wp2_with fail
    refine(C _ hLr).mono ?_
    rintro e W1 ⟨rfl,hk1⟩
    have HF1:Hid (Below w'.heap.size w' W1):=HB.out.trans (hk1.mono HB.out.size)
    clear hk1 C cs hLr
    go_upto_region 9 with fail
    rcases(by omega:k=0\/k=1\/k=2\/k=3)with rfl|rfl|rfl|rfl
    ·have HN1:Hid (bits .or .u32 (bits .andNot .u32 Y 255) r=four (mix l seq n A m f 1)):=by have h:=(HN 1 rfl).out;rw[Int.mul_one,Int.mul_one]at h;exact h
     clear HN
     go_quiet(fail)
     go_wp2_with fail
     exact⟨⟨1,_,by omega,by go_num,rfl,HN1,below_drewN HF1.out nq⟩,by simp[intOf];omega⟩
    ·have HN1:=HN 256 rfl
     clear HN
     go_quiet(fail)
     go_wp2_with fail
     exact⟨⟨2,_,by omega,by go_num,rfl,HN1,below_drewN HF1.out nq⟩,by simp[intOf];omega⟩
    ·have HN1:=HN 65536 rfl
     clear HN
     go_quiet(fail)
     go_wp2_with fail
     exact⟨⟨3,_,by omega,by go_num,rfl,HN1,below_drewN HF1.out nq⟩,by simp[intOf];omega⟩
    ·have HN1:=HN 16777216 rfl
     clear HN
     go_quiet(fail)
     go_wp2_with fail
     exact⟨⟨4,_,by omega,by go_num,rfl,HN1,below_drewN HF1.out nq⟩,by simp[intOf];omega⟩
  ·obtain rfl:k=m:=by omega
   have hYR:Y=R:=by rw[HY.out,hR.out,zlK l seq n A k f HM.out]
   subst hYR
   have HUU:Hid (U=!(decide (mU<n))):=hU.out.eq HU.out hlen.out
   obtain⟨b,hb⟩:∃b,Hid (b=decide (mU<n)):=⟨_,rfl⟩
   have HUB:Hid (U=!b):=by rw[hb.out];exact HUU
   have HA:Hid (Asks 122 w.heap.size (unk seq) wr):=zjs _ _ _ cs
   clear cs HUU
   go_wp2_with fail
   refine(ye 122 w.heap.size (unk seq) znT a n c (by omega) l mU HU b hb wr hLr HA).mono ?_
   rintro e W1 ⟨rfl,hk1⟩
   have HF1:Hid (Below w.heap.size w W1):=HV.out.trans ((HB.out.trans (hk1.mono HB.out.size)).mono HV.out.size)
   clear hk1 HA
   go_wp2_with fail
   refine Af (v:=.tuple #[.int .u32 Y,.bool true,.bool U]) ?_ rfl ⟨rfl,HF1.out⟩
   rw[HUB.out]
   simp[results,results86,asAddr]
end Go.Proofs.YtpiohehijkpghacGreatDoor.Od
namespace Go.Proofs.YtpiohehijkpghacGreatDoor.Co
open Go.RowKit
open Hy
open Wi Od Re.Hy
open Gu.Hy (Tb tcs)
theorem zn{w w':World}{a:Addr}{v:Value}(hb:Below w.heap.size w w')(h:w.cell? a=some v):w'.cell? a=some v:=(hb.cell (p:=a) (Ag _ _ h)).trans h
theorem xg{w w':World}{b o:Nat}{cs:List Value}(hb:Below w.heap.size w w')(h:w.rangeAt b o cs):w'.rangeAt b o cs:=fun j v hj=>zn hb (h j v hj)
theorem zeu{n:Nat}{x:Int}(h0:0<=x){m:Nat}(hm:m=1\/m=2\/m=4):fits n x m=true↔Fit (m:Int) x.toNat n:=by
 unfold fits Fit
 rw[decide_eq_true_eq,Ab h0]
 constructor
 ·rintro⟨_,h1,h2⟩
  exact⟨by omega,h1,h2⟩
 ·rintro⟨_,h1,h2⟩
  exact⟨h0,h1,h2⟩
theorem zhs(l:List Ac)(seq:Int):Sure l seq l.length (seeU l seq):=by
 unfold Sure seeU
 rw[List.all_eq_true]
 constructor
 ·intro h j q hj hq
  have:=h q (List.mem_of_getElem? hq)
  simpa using this
 ·intro h q hq
  obtain⟨j,hj,hjq⟩:=List.getElem_of_mem hq
  have:=h j q hj (by rw[List.getElem?_eq_getElem hj,hjq])
  simp[this]
def seeA(s:Cr)(seq x:Int)(m:Nat):Value:=.tuple #[.int .u32 (if fits s.n x m then seeV s.asked seq x m s.f else 0),.bool (fits s.n x m),.bool (fits s.n x m&&seeU s.asked seq)]
theorem cSee{N:Nat}{w:World}{b:Nat}{s:Cr}{L:Sls}(S:St N w b s L)(hok:∀q∈s.asked,q.Ok)(hn:s.asked.length<=100000000)(seq x:Int)(hx:U32 x)(m:Nat)(hm:m=1\/m=2\/m=4)(W:World)(hW:Below w.heap.size w W):
  Calls prog 86 #[L.a,L.m,.int .i64 seq,.int .u32 x,.int .i64 m] W fun e w'=>e=.returned (seeA s seq x m)/\Below W.heap.size W w':=by
 have S:=S.below hW
 obtain⟨a,c,ea⟩:=S.its.ia.slice
 obtain⟨p,mc,em,hB⟩:=S.its.im
 have hU:=S.its.ia
 rw[ea]at hU
 have HL:=hU.lc
 rw[<-xy]at HL
 obtain⟨A,rfl⟩:=Int.eq_ofNat_of_zero_le hx.1
 have hA:A<=4294967295:=by have:=hx.2;omega
 have hml:s.n<=4096:=hB.hn
 rw[ea,em]
 unfold seeA
 by_cases hf:fits s.n A m=true
 ·have hfit:=(zeu (n:=s.n) hx.1 hm).1 hf
  obtain⟨_,h1,h2⟩:=hfit
  rw[Aa]at h1 h2
  rw[hf,Bool.true_and,if_pos rfl]
  have hmm:A+m<=s.n:=by omega
  obtain⟨g,o,rfl,hl⟩:=hB.hm (by omega)
  refine zjv a s.asked.length c s.asked hok g o s.n mc hB.hnc s.f seq A m hA (by omega) hm (by omega) hmm hB.hf _ (show _=_ from ?_) _ (zhs _ _) (by omega) W HL hl ?_
  ·unfold seeV
   rw[Aa,Aa]
  ·exact Ag _ _ (hl 0 (by omega))
 ·have hnf:¬Fit (m:Int) A s.n:=fun h=>hf ((zeu (n:=s.n) hx.1 hm).2 (by rw[Aa];exact h))
  have hff:fits s.n A m=false:=by simpa using hf
  rw[hff,Bool.false_and,if_neg (by decide)]
  exact zlM a s.asked.length c p s.n mc seq m A hA (by omega) hnf W
theorem zdl{x:Int}(hx:U32 x)(w:World)(ht:Tab w):Calls prog 19 #[.int .u32 x] w fun e w'=>e=.returned (.tuple #[ivI ((dcdM x).getD zin),.bool (dcdM x).isSome])/\Below w.heap.size w w':=by
 have hd:dcdM x=dcdW x:=if_pos hx
 refine(zfd x hx.1 hx.2 w ht).mono ?_
 rintro e w' ⟨⟨n,n1,n2,hh,hf,rfl⟩|⟨hno,rfl⟩,hb⟩
 ·refine⟨?_,hb⟩
  have h1:=zkp n (by omega) x hx.1 hx.2
  have h2:=zhj n (by omega) x hx.1 hx.2
  have h3:=zhk n (by omega) x hx.1 hx.2
  rw[hd]
  unfold dcdW
  rw[zb7 x n n1 hh hf 48 n2]
  simp only[Option.getD_some,Option.isSome_some]
  show Ao (.tuple #[iv n _ _ _ _,_])=Ao (.tuple #[iv _ ((Int.toNat _:Nat):Int) ((Int.toNat _:Nat):Int) ((Int.toNat _:Nat):Int) _,_])
  rw[Ab h1.1,Ab h2.1,Ab h3.1]
 ·refine⟨?_,hb⟩
  rw[hd]
  unfold dcdW
  rw[vC x 48 hno]
  rfl
theorem le_rng{g:Nat->Int}{m:Nat}(hm:m<=4)(h:∀i,i<m->0<=g i/\g i<=255):U32 (le g m):=by
 unfold U32
 rcases(by omega:m=0\/m=1\/m=2\/m=3\/m=4)with rfl|rfl|rfl|rfl|rfl
 ·simp[le]
 ·have:=h 0 (by omega);simp[le];omega
 ·have:=h 0 (by omega);have:=h 1 (by omega);simp[le];omega
 ·have:=h 0 (by omega);have:=h 1 (by omega);have:=h 2 (by omega);simp[le];omega
 ·have:=h 0 (by omega);have:=h 1 (by omega);have:=h 2 (by omega);have:=h 3 (by omega);simp[le];omega
theorem zht{s:Cr}{seq x:Int}{m:Nat}(hf:∀i,i<s.n->0<=s.f i/\s.f i<=255)(hm:m<=4)(h:fits s.n x m=true):U32 (seeV s.asked seq x m s.f):=by
 have hp:=jw h
 unfold seeV
 rw[Aa]
 exact le_rng hm fun i hi=>zbG (hf _ (by omega))
theorem xA{P:Program}{fn:Func}{p u:Tmp}{ty:TypeId}(h:fn.results=#[.cell p ty,.tmp u])(tmps:Array Value)(w:World)(g:Nat)(t:TypeId)(cs:Array Value)(fr:Nat×Nat)(d:TypeDesc)(x:Value)
  (hp:tmps.getD p undef=.pointer (some ⟨g,0,none⟩)) (hx:tmps.getD u undef=x) (hg:w.heap[g]?=some (.cells cs t fr))
  (hu:P.underlying ty=some d) (hd:(match d with|.struct _|.array _ _=>true|_=>false)=true) (hi:(P.info? ty).map (·.size)=some cs.size):
  (results fn tmps).run P w=.ok (.tuple #[.agg cs,x]) w:=by
 have hp':tmps[p]?.getD undef=.pointer (some ⟨g,0,none⟩):=by simpa using hp
 have hx':tmps[u]?.getD undef=x:=by simpa using hx
 simp[results,h,hp',hx',asAddr,run_loadVar_row w g t ty cs fr d hg hu hd hi]
theorem zev:(prog.info? 78).map (·.size)=some 5:=by kernel_rfl
def ivL(i:In):Array Value:=#[.int .i64 i.op,.int .i64 i.rd,.int .i64 i.s1,.int .i64 i.s2,.int .i32 i.im]
theorem jq(i:In):(prog.info? 78).map (·.size)=some (ivL i).size/\(ivL zin).size=(ivL i).size/\(ivL i).all (·.oneCell')=true:=by
 refine⟨zev,rfl,?_⟩
 unfold ivL
 simp[Value.oneCell']
theorem yf{w:World}{g:Nat}{cur new:Array Value}{t:TypeId}{fr:Nat×Nat}(h:w.heap[g]?=some (.cells cur t fr)):(w.setRow g new).heap[g]?=some (.cells new t fr):=setRow_heap w g cur new t fr h
theorem below_setRow{B:Nat}{a w:World}{g:Nat}(h:Below B a w)(new:Array Value)(hg:B<=g:=by exact Ad _):Below B a (w.setRow g new):=
 h.trans ⟨rfl,rfl,rfl,by simp,fun k hk=>setRow_other w g k _ (by omega)⟩
theorem zhu{N:Nat}{w:World}{b:Nat}{s:Cr}{L:Sls}(S:St N w b s L)(hok:∀q∈s.asked,q.Ok)(hn:s.asked.length<=100000000)(hfro:U32 s.fro):Calls prog 92 #[.pointer (some ⟨b,0,none⟩),.int .i64 s.tak] w fun e w'=>e=.returned (.tuple #[ivI (rdI mach s).1,.int .i64 (rdI mach s).2])/\Below w.heap.size w w':=by
 have CS0:=fun W hW=>cSee S hok hn s.tak s.fro hfro 4 (by omega) W hW
 obtain⟨a,c,ea⟩:=S.its.ia.slice
 obtain⟨p,mc,em,hB⟩:=S.its.im
 have k335:w.cell? ⟨b,335,none⟩=some (.slice a s.asked.length c):=(zd S.row (by omega)).trans (congrArg some ea)
 have k39:w.cell? ⟨b,39,none⟩=some (.slice p s.n mc):=(zd S.row (by omega)).trans (congrArg some em)
 have k337:w.cell? ⟨b,337,none⟩=some (.int .u32 s.fro):=(zd S.row (by omega)).trans rfl
 have hb:b<w.heap.size:=(Array.getElem?_eq_some_iff.1 S.row).1
 have HT:Hid (Tab w):=S.its.tb
 have e4:((4:Nat):Int)=4:=rfl
 unfold seeA at CS0
 rw[ea,em,e4]at CS0
 have HF:=hB.hf
 cases hf:fits s.n s.fro 4 with
 |false=>
  have e1:rdI mach s=(zin,1):=by unfold rdI;rw[if_neg (by rw[hf];decide)]
  rw[e1]
  rw[hf]at CS0
  simp only[Bool.false_and,if_neg Bool.false_ne_true]at CS0
  have CS:Hid (∀W,Below w.heap.size w W->Calls prog 86 #[.slice a s.asked.length c,.slice p s.n mc,.int .i64 s.tak,.int .u32 s.fro,.int .i64 4] W fun e w'=>e=.returned (.tuple #[.int .u32 0,.bool false,.bool false])/\Below W.heap.size W w'):=CS0
  generalize s.asked.length=n at*
  generalize s.n=ml at*
  generalize s.fro=x at*
  generalize s.tak=q at*
  clear CS0 S hok hB ea em e1 hf HF
  go_enter func92,ntmps92
  go_upto_region 1 with fail
  refine Wi.zj (Φ:=fun W=>Ak _ _ _ _ W) ?_
  intro V hV hVb
  have k335:=zn hVb k335
  have k39:=zn hVb k39
  have k337:=zn hVb k337
  have HVb:Hid (Below w.heap.size w V):=hVb
  have HV:Hid (V.heap[w.heap.size]?=some (.cells #[.int .i64 0,.int .i64 0,.int .i64 0,.int .i64 0,.int .i32 0] 78 (0,0))):=hV
  clear hV hVb
  refine Ae (S:=fun w'=>w'.cell? ⟨b,335,none⟩=some (.slice a n c)/\w'.cell? ⟨b,39,none⟩=some (.slice p ml mc)/\w'.cell? ⟨b,337,none⟩=some (.int .u32 x)) (by kernel_rfl) (⟨k335,k39,k337⟩) (fun hH=>?_)
  refine tI 0 (.pointer (some ⟨b,0,none⟩)) ?_;go_simp
  refine tI 1 (.pointer (some ⟨b,0,none⟩)) ?_;go_simp
  refine tI 2 (.pointer (some ⟨b,335,none⟩)) ?_;go_simp
  refine tH 3 (.slice a n c) rfl (Or.inl ⟨by rfl,by intro wz hSw;have hc:=hSw.1;go_simp⟩) hH ?_;go_simp
  refine tI 4 (.pointer (some ⟨b,0,none⟩)) ?_;go_simp
  refine tI 5 (.pointer (some ⟨b,0,none⟩)) ?_;go_simp
  refine tI 6 (.pointer (some ⟨b,3,none⟩)) ?_;go_simp
  refine tI 7 (.pointer (some ⟨b,39,none⟩)) ?_;go_simp
  refine tH 8 (.slice p ml mc) rfl (Or.inl ⟨by rfl,by intro wz hSw;have hc:=hSw.2.1;go_simp⟩) hH ?_;go_simp
  refine tI 9 (.int .i64 q) ?_;go_simp
  refine tI 10 (.pointer (some ⟨b,0,none⟩)) ?_;go_simp
  refine tI 11 (.pointer (some ⟨b,0,none⟩)) ?_;go_simp
  refine tI 12 (.pointer (some ⟨b,337,none⟩)) ?_;go_simp
  refine tH 13 (.int .u32 x) rfl (Or.inl ⟨by rfl,by intro wz hSw;have hc:=hSw.2.2;go_simp⟩) hH ?_;go_simp
  refine Am (rs:=[14]) (by kernel_rfl) (by simp) ?_
  refine Aj rfl (fun K hK=>?_) WZ
  go_simp
  refine(CS.out _ (HVb.out.trans ((Ai _ _).drew))).mono ?_
  rintro e V1 ⟨rfl,hk⟩
  have HB1:Hid (Below V.heap.size V V1):=zg hk (Ad _)
  go_wp2_with fail
  refine hK.out _ _ (⟨zn hk (hH.1),zn hk (hH.2.1),zn hk (hH.2.2)⟩) (fun hH=>?_)
  clear hK K
  try go_simp
  refine tI 15 (.tuple #[.int .u32 0,.bool false,.bool false]) ?_;go_simp
  refine tI 16 (.int .u32 0) ?_;go_simp
  refine tI 17 (.bool false) ?_;go_simp
  refine tI 18 (.bool false) ?_;go_simp
  refine tI 19 (.int .u32 0) ?_;go_simp
  refine tI 20 (.bool false) ?_;go_simp
  refine tI 21 (.bool false) ?_;go_simp
  refine An (by kernel_rfl) ?_ _
  have HF1:Hid (Below w.heap.size w V1):=HVb.out.trans (HB1.out.mono HVb.out.size)
  have HR:Hid (V1.heap[w.heap.size]?=some (.cells (ivL zin) 78 (0,0))):=(HB1.out.block _ (zk HV.out)).trans HV.out
  clear hH HVb HV HB1 k335 k39 k337 CS hk
  go_wp2_with(refine Ah rfl 78 _ _ rfl _ _ rfl rfl 78 _ HR.out (jq zin).1 (jq zin).2.1 (jq zin).2.2 ?_)
  exact Af (v:=.tuple #[ivI zin,.int .i64 1]) (xA results92 _ _ _ 78 _ (0,0) _ _ rfl rfl (yf HR.out) underlying78 rfl (jq zin).1) rfl ⟨rfl,below_setRow HF1.out _⟩
 |true=>
  have hy:U32 (seeV s.asked s.tak s.fro 4 s.f):=zht (m:=4) hB.hf (by omega) hf
  rw[hf]at CS0
  simp only[Bool.true_and,if_true]at CS0
  have e1:rdI mach s=(match dcdM (seeV s.asked s.tak s.fro 4 s.f)with|some i=>(i,0)|none=>(zin,2)):=by unfold rdI;rw[if_pos hf];rfl
  rw[e1]
  have CS:Hid (∀W,Below w.heap.size w W->Calls prog 86 #[.slice a s.asked.length c,.slice p s.n mc,.int .i64 s.tak,.int .u32 s.fro,.int .i64 4] W fun e w'=>e=.returned (.tuple #[.int .u32 (seeV s.asked s.tak s.fro 4 s.f),.bool true,.bool (seeU s.asked s.tak)])/\Below W.heap.size W w'):=CS0
  generalize seeV s.asked s.tak s.fro 4 s.f=y at*
  generalize seeU s.asked s.tak=U at*
  have CD:Hid (∀W,Tab W->Calls prog 19 #[.int .u32 y] W fun e w'=>e=.returned (.tuple #[ivI ((dcdM y).getD zin),.bool (dcdM y).isSome])/\Below W.heap.size W w'):=fun W hW=>zdl hy W hW
  generalize s.asked.length=n at*
  generalize s.n=ml at*
  generalize s.fro=x at*
  generalize s.tak=q at*
  clear CS0 S hok hB ea em e1 hf HF hy
  cases hd:dcdM y with
  |none=>
   rw[hd]at CD
   simp only[Option.getD_none,Option.isSome_none]at CD
   clear hd
   go_enter func92,ntmps92
   go_upto_region 1 with fail
   refine Wi.zj (Φ:=fun W=>Ak _ _ _ _ W) ?_
   intro V hV hVb
   have k335:=zn hVb k335
   have k39:=zn hVb k39
   have k337:=zn hVb k337
   have HVb:Hid (Below w.heap.size w V):=hVb
   have HV:Hid (V.heap[w.heap.size]?=some (.cells #[.int .i64 0,.int .i64 0,.int .i64 0,.int .i64 0,.int .i32 0] 78 (0,0))):=hV
   clear hV hVb
   refine Ae (S:=fun w'=>w'.cell? ⟨b,335,none⟩=some (.slice a n c)/\w'.cell? ⟨b,39,none⟩=some (.slice p ml mc)/\w'.cell? ⟨b,337,none⟩=some (.int .u32 x)) (by kernel_rfl) (⟨k335,k39,k337⟩) (fun hH=>?_)
   refine tI 0 (.pointer (some ⟨b,0,none⟩)) ?_;go_simp
   refine tI 1 (.pointer (some ⟨b,0,none⟩)) ?_;go_simp
   refine tI 2 (.pointer (some ⟨b,335,none⟩)) ?_;go_simp
   refine tH 3 (.slice a n c) rfl (Or.inl ⟨by rfl,by intro wz hSw;have hc:=hSw.1;go_simp⟩) hH ?_;go_simp
   refine tI 4 (.pointer (some ⟨b,0,none⟩)) ?_;go_simp
   refine tI 5 (.pointer (some ⟨b,0,none⟩)) ?_;go_simp
   refine tI 6 (.pointer (some ⟨b,3,none⟩)) ?_;go_simp
   refine tI 7 (.pointer (some ⟨b,39,none⟩)) ?_;go_simp
   refine tH 8 (.slice p ml mc) rfl (Or.inl ⟨by rfl,by intro wz hSw;have hc:=hSw.2.1;go_simp⟩) hH ?_;go_simp
   refine tI 9 (.int .i64 q) ?_;go_simp
   refine tI 10 (.pointer (some ⟨b,0,none⟩)) ?_;go_simp
   refine tI 11 (.pointer (some ⟨b,0,none⟩)) ?_;go_simp
   refine tI 12 (.pointer (some ⟨b,337,none⟩)) ?_;go_simp
   refine tH 13 (.int .u32 x) rfl (Or.inl ⟨by rfl,by intro wz hSw;have hc:=hSw.2.2;go_simp⟩) hH ?_;go_simp
   refine Am (rs:=[14]) (by kernel_rfl) (by simp) ?_
   refine Aj rfl (fun K hK=>?_) WZ
   go_simp
   refine(CS.out _ (HVb.out.trans ((Ai _ _).drew))).mono ?_
   rintro e V1 ⟨rfl,hk⟩
   have HB1:Hid (Below V.heap.size V V1):=zg hk (Ad _)
   go_wp2_with fail
   refine hK.out _ _ (⟨zn hk (hH.1),zn hk (hH.2.1),zn hk (hH.2.2)⟩) (fun hH=>?_)
   clear hK K
   try go_simp
   refine tI 15 (.tuple #[.int .u32 y,.bool true,.bool U]) ?_;go_simp
   refine tI 16 (.int .u32 y) ?_;go_simp
   refine tI 17 (.bool true) ?_;go_simp
   refine tI 18 (.bool U) ?_;go_simp
   refine tI 19 (.int .u32 y) ?_;go_simp
   refine tI 20 (.bool true) ?_;go_simp
   refine tI 21 (.bool U) ?_;go_simp
   refine An (by kernel_rfl) ?_ _
   have HF1:Hid (Below w.heap.size w V1):=HVb.out.trans (HB1.out.mono HVb.out.size)
   have HR:Hid (V1.heap[w.heap.size]?=some (.cells (ivL zin) 78 (0,0))):=(HB1.out.block _ (zk HV.out)).trans HV.out
   clear hH HVb HV HB1 k335 k39 k337 CS hk
   go_wp2_with fail
   refine(CD.out _ (HT.out.below HF1.out HT.out.size)).mono ?_
   rintro e V2 ⟨rfl,hk2⟩
   have HR:Hid (V2.heap[w.heap.size]?=some (.cells (ivL zin) 78 (0,0))):=(hk2.block _ (zk HR.out)).trans HR.out
   have HF1:Hid (Below w.heap.size w V2):=HF1.out.trans (hk2.mono HF1.out.size)
   clear hk2 CD
   go_upto_region 6 with fail
   refine Wi.zj (Φ:=fun W=>Ak _ _ _ _ W) ?_
   intro V3 hV3 hb3
   have HR:Hid (V3.heap[w.heap.size]?=some (.cells (ivL zin) 78 (0,0))):=(hb3.block _ (zk HR.out)).trans HR.out
   have HF1:Hid (Below w.heap.size w V3):=HF1.out.trans (hb3.mono HF1.out.size)
   have HV3:Hid (V3.heap[V2.heap.size]?=some (.cells (ivL zin) 78 (0,0))):=hV3
   clear hV3 hb3
   generalize V2.heap.size=z at*
   go_wp2_with(refine Ah rfl 78 _ _ rfl _ _ rfl rfl 78 _ HR.out (jq zin).1 (jq zin).2.1 (jq zin).2.2 ?_)
   exact Af (v:=.tuple #[ivI zin,.int .i64 2]) (xA results92 _ _ _ 78 _ (0,0) _ _ rfl rfl (yf HR.out) underlying78 rfl (jq zin).1) rfl ⟨rfl,below_setRow HF1.out _⟩
  |some i=>
   rw[hd]at CD
   simp only[Option.getD_some,Option.isSome_some]at CD
   clear hd
   go_enter func92,ntmps92
   go_upto_region 1 with fail
   refine Wi.zj (Φ:=fun W=>Ak _ _ _ _ W) ?_
   intro V hV hVb
   have k335:=zn hVb k335
   have k39:=zn hVb k39
   have k337:=zn hVb k337
   have HVb:Hid (Below w.heap.size w V):=hVb
   have HV:Hid (V.heap[w.heap.size]?=some (.cells #[.int .i64 0,.int .i64 0,.int .i64 0,.int .i64 0,.int .i32 0] 78 (0,0))):=hV
   clear hV hVb
   refine Ae (S:=fun w'=>w'.cell? ⟨b,335,none⟩=some (.slice a n c)/\w'.cell? ⟨b,39,none⟩=some (.slice p ml mc)/\w'.cell? ⟨b,337,none⟩=some (.int .u32 x)) (by kernel_rfl) (⟨k335,k39,k337⟩) (fun hH=>?_)
   refine tI 0 (.pointer (some ⟨b,0,none⟩)) ?_;go_simp
   refine tI 1 (.pointer (some ⟨b,0,none⟩)) ?_;go_simp
   refine tI 2 (.pointer (some ⟨b,335,none⟩)) ?_;go_simp
   refine tH 3 (.slice a n c) rfl (Or.inl ⟨by rfl,by intro wz hSw;have hc:=hSw.1;go_simp⟩) hH ?_;go_simp
   refine tI 4 (.pointer (some ⟨b,0,none⟩)) ?_;go_simp
   refine tI 5 (.pointer (some ⟨b,0,none⟩)) ?_;go_simp
   refine tI 6 (.pointer (some ⟨b,3,none⟩)) ?_;go_simp
   refine tI 7 (.pointer (some ⟨b,39,none⟩)) ?_;go_simp
   refine tH 8 (.slice p ml mc) rfl (Or.inl ⟨by rfl,by intro wz hSw;have hc:=hSw.2.1;go_simp⟩) hH ?_;go_simp
   refine tI 9 (.int .i64 q) ?_;go_simp
   refine tI 10 (.pointer (some ⟨b,0,none⟩)) ?_;go_simp
   refine tI 11 (.pointer (some ⟨b,0,none⟩)) ?_;go_simp
   refine tI 12 (.pointer (some ⟨b,337,none⟩)) ?_;go_simp
   refine tH 13 (.int .u32 x) rfl (Or.inl ⟨by rfl,by intro wz hSw;have hc:=hSw.2.2;go_simp⟩) hH ?_;go_simp
   refine Am (rs:=[14]) (by kernel_rfl) (by simp) ?_
   refine Aj rfl (fun K hK=>?_) WZ
   go_simp
   refine(CS.out _ (HVb.out.trans ((Ai _ _).drew))).mono ?_
   rintro e V1 ⟨rfl,hk⟩
   have HB1:Hid (Below V.heap.size V V1):=zg hk (Ad _)
   go_wp2_with fail
   refine hK.out _ _ (⟨zn hk (hH.1),zn hk (hH.2.1),zn hk (hH.2.2)⟩) (fun hH=>?_)
   clear hK K
   try go_simp
   refine tI 15 (.tuple #[.int .u32 y,.bool true,.bool U]) ?_;go_simp
   refine tI 16 (.int .u32 y) ?_;go_simp
   refine tI 17 (.bool true) ?_;go_simp
   refine tI 18 (.bool U) ?_;go_simp
   refine tI 19 (.int .u32 y) ?_;go_simp
   refine tI 20 (.bool true) ?_;go_simp
   refine tI 21 (.bool U) ?_;go_simp
   refine An (by kernel_rfl) ?_ _
   have HF1:Hid (Below w.heap.size w V1):=HVb.out.trans (HB1.out.mono HVb.out.size)
   have HR:Hid (V1.heap[w.heap.size]?=some (.cells (ivL zin) 78 (0,0))):=(HB1.out.block _ (zk HV.out)).trans HV.out
   clear hH HVb HV HB1 k335 k39 k337 CS hk
   go_wp2_with fail
   refine(CD.out _ (HT.out.below HF1.out HT.out.size)).mono ?_
   rintro e V2 ⟨rfl,hk2⟩
   have HR:Hid (V2.heap[w.heap.size]?=some (.cells (ivL zin) 78 (0,0))):=(hk2.block _ (zk HR.out)).trans HR.out
   have HF1:Hid (Below w.heap.size w V2):=HF1.out.trans (hk2.mono HF1.out.size)
   clear hk2 CD
   go_upto_region 7 with fail
   refine Wi.zj (Φ:=fun W=>Ak _ _ _ _ W) ?_
   intro V3 hV3 hb3
   have HR:Hid (V3.heap[w.heap.size]?=some (.cells (ivL zin) 78 (0,0))):=(hb3.block _ (zk HR.out)).trans HR.out
   have HF1:Hid (Below w.heap.size w V3):=HF1.out.trans (hb3.mono HF1.out.size)
   have HV3:Hid (V3.heap[V2.heap.size]?=some (.cells (ivL i) 78 (0,0))):=hV3
   clear hV3 hb3
   generalize V2.heap.size=z at*
   go_wp2_with(first|refine wpList_load_row rfl 78 _ rfl _ rfl 78 _ (0,0) _ HV3.out underlying78 rfl (jq i).1 ?_|refine Ah rfl 78 _ _ rfl _ _ rfl rfl 78 _ HR.out (jq i).1 (jq i).2.1 (jq i).2.2 ?_)
   exact Af (v:=.tuple #[ivI i,.int .i64 0]) (xA results92 _ _ _ 78 _ (0,0) _ _ rfl rfl (yf HR.out) underlying78 rfl (jq i).1) rfl ⟨rfl,below_setRow HF1.out _⟩
end Go.Proofs.YtpiohehijkpghacGreatDoor.Co
namespace Go.Proofs.YtpiohehijkpghacGreatDoor
open Go.RowKit
open Hy
theorem zdm(h a n c:Nat)(m B:Nat)(W:Int)(f:Nat->Int)(hm:m=1\/m=2\/m=4)(hmn:a+m<=n)(hn:n<=140737488355328)(W0:0<=W)(W1:W<=4294967295)(w:World)(H:Fr w B h n f):
  Calls prog 112 #[.slice (some ⟨h,a,none⟩) (n-a) c,.int .u32 m,.int .u32 W] w fun e w'=>e=.returned (.tuple #[])/\Fr w' B h n (sto f a W m)/\Below B w w'/\w'.heap.size=w.heap.size:=by
 go_enter func112,ntmps112
 go_wp2
 go_loopw [6,8] (fun i k wr=>∃j:Nat,j<=m/\k=.int .u32 j/\Fr wr B h n (sto f a W j)/\Below B w wr/\wr.heap.size=w.heap.size) (fun _ k _=>m-(intOf k).toNat)
 case atStart=>exact⟨0,by omega,rfl,H.congr fun i _=>by unfold sto;rw[if_neg (by omega)],Ai _ _,rfl⟩
 case round=>
  obtain⟨j,hj,rfl,hF,hB,hS⟩:=hrel
  by_cases hlt:j<m
  ·have c0:=hF.cell (a+j) (by omega)
   have z0:=hF.free (a+j) (by omega)
   rcases(by omega:j=0\/j=1\/j=2\/j=3)with rfl|rfl|rfl|rfl
   ·rw[Nat.add_zero]at c0 z0
    go_wp2
    refine⟨⟨1,by omega,rfl,hF.step (j:=0) (by omega) _ (by rw[show p256 0=1 from rfl,Int.ediv_one]),hB.setCell hF.base _,by simpa using hS⟩,by simp[intOf];omega⟩
   ·go_wp2
    refine⟨⟨2,by omega,rfl,hF.step (j:=1) (by omega) _ rfl,hB.setCell hF.base _,by simpa using hS⟩,by simp[intOf];omega⟩
   ·go_wp2
    refine⟨⟨3,by omega,rfl,hF.step (j:=2) (by omega) _ rfl,hB.setCell hF.base _,by simpa using hS⟩,by simp[intOf];omega⟩
   ·go_wp2
    refine⟨⟨4,by omega,rfl,hF.step (j:=3) (by omega) _ (by rw[show p256 3=16777216 from rfl];omega),hB.setCell hF.base _,by simpa using hS⟩,by simp[intOf];omega⟩
  ·obtain rfl:j=m:=by omega
   go_wp2
   go_end0
   exact⟨rfl,hF,hB,hS⟩
theorem zhv(g o n c:Nat)(op:Int)(a m:Nat)(W:Int)(f:Nat->Int)(hM:stn op=(m:Int))(hn:n<=140737488355328)(a1:a<=4294967295)(h0:0<m)(h1:a%m=0)(h2:a+m<=n)(hnc:n<=c)(W0:0<=W)(W1:W<=4294967295)(w:World)
  (hc:Lies w g o n f):
  Calls prog 78 #[.slice (some ⟨g,o,none⟩) n c,.int .i64 op,.int .u32 a,.int .u32 W] w fun e w'=>(∃h cap,e=.returned (.tuple #[.slice (some ⟨h,0,none⟩) n cap,.bool true])/\n<=cap/\Fr w' w.heap.size h n (sto f a W m))/\Below w.heap.size w w':=by
 have hm':=yX op
 have hm:m=1\/m=2\/m=4:=by omega
 have C1:=fun w=>zam (some ⟨g,o,none⟩) n c op a hn (by omega) (by omega) (by rw[hM];exact⟨by omega,by omega,by omega⟩) w
 rw[hM]at C1 hm'
 have C3:=fun w hc=>ve g o n c f (by omega) hn w hc
 clear hm'
 go_enter func78,ntmps78
 go_wp2_with fail
 refine(C1 _).mono ?_
 rintro e w' ⟨rfl,rfl⟩
 go_wp2_with fail
 refine(C3 _ hc).mono ?_
 rintro e w1 ⟨⟨h,cap,rfl,hcap,hmax,hF⟩,hB⟩
 clear C1 C3
 go_wp2_with fail
 refine(zdm h a n (cap-a) m w'.heap.size W f hm (by omega) hn W0 W1 w1 hF).mono ?_
 rintro e w2 ⟨rfl,hF2,hB2,hS2⟩
 go_wp2_with fail
 go_ret2
 exact⟨⟨h,cap,rfl,hcap,hF2⟩,hB.trans hB2⟩
theorem zn0(pc v:Int){rd:Nat}(h:rd=0):onC pc rd v=⟨pc,(pc+4)%4294967296,0,0,0,0,0,0,0,false,0⟩:=by subst h;rfl
theorem zlN(pc v:Int){rd:Nat}(h:¬rd=0):onC pc rd v=⟨pc,(pc+4)%4294967296,0,0,rd,v,0,0,0,false,0⟩:=by unfold onC;rw[if_neg h]
end Go.Proofs.YtpiohehijkpghacGreatDoor
