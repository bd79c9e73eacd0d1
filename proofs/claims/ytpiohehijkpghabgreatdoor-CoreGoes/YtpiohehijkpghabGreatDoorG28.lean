/- What a load sees: the program. -/
import Derived.Test.YtpiohehijkpghabGreatDoorG04
import Derived.Test.YtpiohehijkpghabGreatDoorG27
set_option maxRecDepth 20000
set_option maxHeartbeats 2000000
namespace Go.Proofs.YtpiohehijkpghabGreatDoor.Od
open Go.Proofs.YtpiohehijkpghabGreatDoor.Wi
open Go.RowKit
open Hy
set_option linter.unusedVariables false
set_option linter.unusedSimpArgs false
def mix (l:List Ac) (seq:Int) (n A m:Nat) (f:Nat→Int) (k:Nat):Nat→Int:=fun i=>if i<k then sb l seq n A f i else upto m (fun i=>f (A+i)) i
theorem mix_rng {l:List Ac} {seq:Int} {n A m ml:Nat} {f:Nat→Int} (hf:∀i,i<ml→0≤f i∧f i≤255) (h:A+m≤ml) (k:Nat) (hk:k≤m):∀i,0≤mix l seq n A m f k i∧mix l seq n A m f k i≤255:=by
 intro i
 unfold mix
 split
 ·exact sb_rng (hf _ (by omega))
 ·unfold upto
  split
  ·exact hf _ (by omega)
  ·omega
theorem mix_zero (l:List Ac) (seq:Int) (n A m:Nat) (f:Nat→Int) (hm:m=1∨m=2∨m=4):le (fun i=>f (A+i)) m=four (mix l seq n A m f 0):=by
 rw[le_four m hm]
 rfl
theorem mix_all (l:List Ac) (seq:Int) (n A m:Nat) (f:Nat→Int) (hm:m=1∨m=2∨m=4):four (mix l seq n A m f m)=le (sb l seq n A f) m:=by
 rw[le_four m hm]
 rcases hm with rfl|rfl|rfl<;>simp[four,mix,upto]
theorem mix_stay (l:List Ac) (seq:Int) (n A m:Nat) (f:Nat→Int) (k:Nat) (hk:k<m) (h:bst l seq ((A:Int)+k) n=none):four (mix l seq n A m f k)=four (mix l seq n A m f (k+1)):=by
 have e:mix l seq n A m f k=mix l seq n A m f (k+1):=by
  funext i
  unfold mix
  by_cases h1:i<k
  ·rw[if_pos h1,if_pos (by omega)]
  ·by_cases h2:i=k
   ·subst h2
    rw[if_neg (by omega),if_pos (by omega),upto,if_pos hk,sb,seen_none h]
   ·rw[if_neg h1,if_neg (by omega)]
 rw[e]
theorem mix_put (l:List Ac) (seq:Int) (n A m:Nat) (f:Nat→Int) (k:Nat):put1 (mix l seq n A m f k) k (sb l seq n A f k)=mix l seq n A m f (k+1):=by
 funext i
 unfold put1 mix
 by_cases h2:i=k
 ·subst h2;rw[if_pos rfl,if_pos (by omega)]
 ·rw[if_neg h2]
  by_cases h1:i<k
  ·rw[if_pos h1,if_pos (by omega)]
  ·rw[if_neg h1,if_neg (by omega)]
theorem seen_of_some {l:List Ac} {seq x m:Int} {n:Nat} (h:(bst l seq x n).isSome=true):seen l seq x 0 n=seen l seq x m n:=by
 cases hb:bst l seq x n with
 |none=>rw[hb]at h;cases h
 |some j=>
  obtain⟨_,q,hq,_⟩:=bst_lt _ _ _ _ _ hb
  rw[seen_some hb hq,seen_some hb hq]
theorem ldo_no {many:Int} {A ml:Nat} (h:¬Fit many A ml):¬(0<ldn (ldo many)∧(A:Int)%ldn (ldo many)=0∧(A:Int)+ldn (ldo many)≤ml):=by
 intro⟨h1,h2,h3⟩
 by_cases hm:many=1∨many=2∨many=4
 ·have e:ldn (ldo many)=many:=by rcases hm with rfl|rfl|rfl<;>rfl
  rw[e]at h2 h3
  exact h ⟨hm,h2,h3⟩
 ·have e:ldo many=0:=by unfold ldo;rw[if_neg (by omega),if_neg (by omega),if_neg (by omega)]
  rw[e]at h1
  exact absurd h1 (by decide)
theorem uSee_no (a:Option Addr) (n c:Nat) (p:Option Addr) (ml mc:Nat) (seq many:Int) (A:Nat) (hA:A≤4294967295) (hml:ml≤140737488355328) (h:¬Fit many A ml) (w:World):
  Calls Tryz.prog 71 #[.slice a n c,.slice p ml mc,.int .i64 seq,.int .u32 A,.int .i64 many] w fun e w'=>e=.returned (.tuple #[.int .u32 0,.bool false,.bool false])∧Below w.heap.size w w':=by
 have C1:=fun w=>uload_any many w
 have C2:=fun w=>Load_no p ml mc (ldo many) A hml (by omega) (by omega) (ldo_no h) w
 obtain⟨op,hop⟩:∃op,op=ldo many:=⟨_,rfl⟩
 rw[←hop]at C1 C2
 clear h hop
 go_enter Tryz.func71,Tryz.ntmps71
 go_upto_region 1 with fail
 refine one_box (Φ:=fun W=>Code.wp _ _ _ _ W) ?_
 intro V hV hVb
 have HB:Hid (Below w.heap.size w V):=hVb
 clear hV hVb
 go_wp2_with fail
 refine(C1 _).mono ?_
 rintro e w' ⟨rfl,rfl⟩
 go_wp2_with fail
 refine(C2 _).mono ?_
 rintro e w' ⟨rfl,rfl⟩
 clear C1 C2
 go_wp2_with fail
 refine bodyPost_ret (v:=.tuple #[.int .u32 0,.bool false,.bool false]) ?_ rfl ⟨rfl,HB.out⟩
 simp[results,Tryz.results71,asAddr]
theorem uSee_yes (a:Option Addr) (n c:Nat) (l:List Ac) (hok:Hid (∀q∈l,q.Ok)) (g o ml mc:Nat) (hmc:ml≤mc) (f:Nat→Int) (seq:Int) (A m:Nat) (hA:A≤4294967295) (hml:ml≤140737488355328) (hm:m=1∨m=2∨m=4) (hA0:A%m=0) (hAm:A+m≤ml) (hfr:Hid (∀i,i<ml→0≤f i∧f i≤255)) (R:Int) (hR:Hid (R=le (sb l seq n A f) m)) (U:Bool) (hU:Hid (Sure l seq n U)) (hn:n≤140737488355328) (w:World) (hL:Hid (LC w a n c 7 (acs l))) (hM:Hid (Lies w g o ml f)) (hg:Hid (g<w.heap.size)):
  Calls Tryz.prog 71 #[.slice a n c,.slice (some ⟨g,o,none⟩) ml mc,.int .i64 seq,.int .u32 A,.int .i64 m] w fun e w'=>e=.returned (.tuple #[.int .u32 R,.bool true,.bool U])∧Below w.heap.size w w':=by
 have hmf:∀(fn:Fn) (first cap:Array Value) (w:World),(Instr.makeFunc fn first cap).run Tryz.prog w=.ok (.func fn first cap) w:=fun _ _ _ _=>rfl
 have hlen:Hid (l.length=n):=by have:=hL.out.len;rw[acs_len]at this;show _=_;omega
 have hAm4:A+m≤4294967296:=by rcases hm with rfl|rfl|rfl<;>omega
 have hm4:1≤m∧m≤4:=by omega
 have HM:Hid (m=1∨m=2∨m=4):=hm
 have C1:=fun w=>uload_any m w
 have hld:ldn (ldo m)=(m:Int):=by rcases hm with rfl|rfl|rfl<;>rfl
 have hlv:ldv (ldo m) (fun i=>f (A+i))=four (mix l seq n A m f 0):=by
  rw[←mix_zero l seq n A m f hm]
  rcases hm with rfl|rfl|rfl<;>rfl
 have C2:=fun w hc=>Load_any g o ml mc (ldo m) A m (fun i=>f (A+i)) hld hml (by omega) (by omega) hA0 hAm hmc w (fun i hi=>hfr.out _ (by omega)) hc
 rw[hlv]at C2
 obtain⟨op,hop⟩:∃op,op=ldo m:=⟨_,rfl⟩
 obtain⟨Z,hZ⟩:∃Z,Z=four (mix l seq n A m f 0):=⟨_,rfl⟩
 rw[←hop]at C1 C2
 rw[←hZ]at C2
 have HZ:Hid (Z=four (mix l seq n A m f 0)):=hZ
 clear hm hop hld hlv hZ hA0
 obtain⟨mU,hmU⟩:=firstA_ex (unk seq) l
 have HU:Hid (FirstA (unk seq) l mU):=hmU
 clear hmU
 go_enter Tryz.func71,Tryz.ntmps71
 go_upto_region 1 with fail
 refine one_box (Φ:=fun W=>Code.wp _ _ _ _ W) ?_
 intro V hV hVb
 have HV:Hid (Below w.heap.size w V):=hVb
 have hgV:Hid (g<V.heap.size):=Nat.lt_of_lt_of_le hg.out hVb.size
 have hwV:w.heap.size<V.heap.size:=heap_lt hV
 have HC:Hid (V.cell? ⟨w.heap.size,0,none⟩=some (.int .i64 seq)):=(cell_of_row _ _ _ _ _ _ hV).trans rfl
 have hLV:Hid (LC V a n c 7 (acs l)):=hL.out.below (Nat.le_refl _) hVb
 have hMV:Hid (Lies V g o ml f):=fun i hi=>(hVb.cell (p:=⟨g,o+i,none⟩) hg.out).trans (hM.out i hi)
 clear hV hVb
 go_wp2_with fail
 refine(C1 _).mono ?_
 rintro e w' ⟨rfl,rfl⟩
 go_wp2_with fail
 refine(C2 _ (fun i hi=>by rw[Nat.add_assoc];exact hMV.out (A+i) (by omega))).mono ?_
 rintro e w' ⟨rfl,rfl⟩
 clear C1 C2
 go_wp2_with fail
 go_loopw [13,29] (fun t i wr=>∃(k:Nat) (Y:Int),k≤m∧i=.int .i64 k∧t=.int .u32 Y∧Hid (Y=four (mix l seq n A m f k))∧Hid (Below w'.heap.size w' wr))
  (fun _ i _=>m-(intOf i).toNat)
 case atStart=>exact⟨0,Z,by omega,rfl,rfl,HZ,Below.refl _ _⟩
 case round=>
  obtain⟨k,Y,hk,rfl,rfl,HY,HB⟩:=hrel
  have cs:wr.cell? ⟨w.heap.size,0,none⟩=some (.int .i64 seq):=(HB.out.cell (p:=⟨w.heap.size,0,none⟩) hwV).trans HC.out
  have hLr:Hid (LC wr a n c 7 (acs l)):=hLV.out.below (Nat.le_refl _) HB.out
  by_cases hlt:k<m
  ·obtain⟨r,hr⟩:∃r,Hid (r=seen l seq ((A:Int)+k) 0 n):=⟨_,rfl⟩
   obtain⟨F,hF⟩:∃F,Hid (F=(bst l seq ((A:Int)+k) n).isSome):=⟨_,rfl⟩
   have C:=fun w hL=>ustored_any a n c seq ((A:Int)+k) l hok (by omega) (by omega) r F hr hF hn w hL
   cases hFF:F with
   |false=>
    subst hFF
    have HN:Hid (Y=four (mix l seq n A m f (k+1))):=by
     show _=_
     rw[HY.out,mix_stay l seq n A m f k hlt ?_]
     cases hb:bst l seq ((A:Int)+k) n with
     |none=>rfl
     |some j=>have:=hF.out;rw[hb]at this;cases this
    go_wp2_with fail
    refine(C _ hLr).mono ?_
    rintro e W1 ⟨rfl,hk1⟩
    have HF1:Hid (Below w'.heap.size w' W1):=HB.out.trans (hk1.mono HB.out.size)
    clear hk1 C
    go_wp2_with fail
    exact⟨⟨k+1,_,by omega,by go_num,rfl,HN,HF1⟩,by simp[intOf];omega⟩
   |true=>
    subst hFF
    have hr2:0≤r∧r≤255:=by rw[hr.out];exact seen_rng _ _ _ _ _ ⟨by omega,by omega⟩
    have hYr:0≤Y∧Y<4294967296:=by
     rw[HY.out]
     have h:=mix_rng (l:=l) (seq:=seq) (n:=n) hfr.out hAm k (by omega)
     have h0:=h 0
     have h1:=h 1
     have h2:=h 2
     have h3:=h 3
     unfold four
     omega
    have HN:∀P:Int,P=((2^(8*k):Nat):Int)→Hid (bits .or .u32 (bits .andNot .u32 Y (255*P)) (r*P)=four (mix l seq n A m f (k+1))):=fun P hP=>by
     show _=_
     rw[lay_four k (mix l seq n A m f k) r Y P (by omega) hP (mix_rng hfr.out hAm k (by omega)) hr2.1 hr2.2 HY.out]
     rw[show r=sb l seq n A f k from hr.out.trans (seen_of_some hF.out.symm),mix_put]
    go_wp2_with fail
    refine(C _ hLr).mono ?_
    rintro e W1 ⟨rfl,hk1⟩
    have HF1:Hid (Below w'.heap.size w' W1):=HB.out.trans (hk1.mono HB.out.size)
    clear hk1 C cs hLr
    go_upto_region 9 with fail
    rcases(by omega:k=0∨k=1∨k=2∨k=3)with rfl|rfl|rfl|rfl
    ·have HN1:Hid (bits .or .u32 (bits .andNot .u32 Y 255) r=four (mix l seq n A m f 1)):=by have h:=(HN 1 rfl).out;rw[Int.mul_one,Int.mul_one]at h;exact h
     clear HN
     go_quiet(fail)
     go_wp2_with fail
     exact⟨⟨1,_,by omega,by go_num,rfl,HN1,below_drewN HF1.out nq⟩,by simp[intOf];omega⟩
    ·have HN1:=HN 256 rfl
     clear HN
     go_quiet(fail)
     go_wp2_with fail
     exact⟨⟨2,_,by omega,by go_num,rfl,HN1,below_drewN HF1.out nq⟩,by simp[intOf];omega⟩
    ·have HN1:=HN 65536 rfl
     clear HN
     go_quiet(fail)
     go_wp2_with fail
     exact⟨⟨3,_,by omega,by go_num,rfl,HN1,below_drewN HF1.out nq⟩,by simp[intOf];omega⟩
    ·have HN1:=HN 16777216 rfl
     clear HN
     go_quiet(fail)
     go_wp2_with fail
     exact⟨⟨4,_,by omega,by go_num,rfl,HN1,below_drewN HF1.out nq⟩,by simp[intOf];omega⟩
  ·obtain rfl:k=m:=by omega
   have hYR:Y=R:=by rw[HY.out,hR.out,mix_all l seq n A k f HM.out]
   subst hYR
   have HUU:Hid (U=!(decide (mU<n))):=hU.out.eq HU.out hlen.out
   obtain⟨b,hb⟩:∃b,Hid (b=decide (mU<n)):=⟨_,rfl⟩
   have HUB:Hid (U=!b):=by rw[hb.out];exact HUU
   have HA:Hid (Asks 98 w.heap.size (unk seq) wr):=asks_unk _ _ _ cs
   clear cs HUU
   go_wp2_with fail
   refine(aContainsFunc_any 98 w.heap.size (unk seq) eg_unk a n c (by omega) l mU HU b hb wr hLr HA).mono ?_
   rintro e W1 ⟨rfl,hk1⟩
   have HF1:Hid (Below w.heap.size w W1):=HV.out.trans ((HB.out.trans (hk1.mono HB.out.size)).mono HV.out.size)
   clear hk1 HA
   go_wp2_with fail
   refine bodyPost_ret (v:=.tuple #[.int .u32 Y,.bool true,.bool U]) ?_ rfl ⟨rfl,HF1.out⟩
   rw[HUB.out]
   simp[results,Tryz.results71,asAddr]
end Go.Proofs.YtpiohehijkpghabGreatDoor.Od
