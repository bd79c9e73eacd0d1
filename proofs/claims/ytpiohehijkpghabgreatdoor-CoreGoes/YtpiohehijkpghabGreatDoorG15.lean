/- Numbers that lie in memory; a map that counts. -/
import Derived.Maps.OwnOps
import Derived.Maps.Views
import Derived.OwnWalk
import Derived.Laws.OwnMore
import Derived.Test.YtpiohehijkpghabGreatDoorG14
import Derived.Test.YtpiohehijkpghabGreatDoorG05
namespace Go.Proofs.YtpiohehijkpghabGreatDoor
open Go.RowKit
open Hy
set_option linter.unusedVariables false
set_option linter.unusedSimpArgs false
abbrev cC (c:Cm):Array Value:=ccs c.pc c.next c.st c.ca c.rd c.val c.pl c.many c.data c.out c.told
abbrev cvC (c:Cm):Value:=.agg (cC c)
abbrev ivI (i:In):Value:=iv i.op i.rd i.s1 i.s2 i.im
structure InOk (i:In):Prop where
 lr:i.rd<32
 l1:i.s1<32
 l2:i.s2<32
 i0:-2147483648≤i.im
 i1:i.im≤2147483647
 o0:1≤i.op
 o1:i.op≤48
theorem cC_ok (c:Cm):(cC c).size=11∧Ones (cC c):=⟨rfl,ones_ccs _ _ _ _ _ _ _ _ _ _ _⟩
structure Bys (w:World) (p:Option Addr) (n c:Nat) (f:Nat→Int):Prop where
 hn:n≤4096
 hnc:n≤c
 hm:Mem w p n f
 hf:∀i,i<n→0≤f i∧f i≤255
theorem Bys.below {w w':World} {p:Option Addr} {n c:Nat} {f:Nat→Int} (h:Bys w p n c f) (hb:Below w.heap.size w w'):Bys w' p n c f:=⟨h.hn,h.hnc,h.hm.below hb,h.hf⟩
theorem pLoad_yes {w:World} {p:Option Addr} {n c:Nat} {f:Nat→Int} (o:Bys w p n c f) (op:Int) (a:Nat) (a1:(a:Int)≤4294967295) (ho:0<ldn op∧(a:Int)%ldn op=0∧(a:Int)+ldn op≤n):
  ∀W,Below w.heap.size w W→Calls Tryz.prog 94 #[.slice p n c,.int .i64 op,.int .u32 a] W fun e w'=>e=.returned (.tuple #[.int .u32 (ldv op (fun i=>f (a+i))),.bool true])∧w'=W:=by
 have hn:=o.hn
 obtain⟨m,hm⟩:=Int.eq_ofNat_of_zero_le (show 0≤ldn op by omega)
 have ho':=ho
 rw[hm]at ho'
 obtain⟨g,q,hp,hc⟩:=o.hm (by omega)
 have hf:∀i,i<m→0≤f (a+i)∧f (a+i)≤255:=fun i hi=>o.hf _ (by omega)
 intro W hW
 subst hp
 exact Load_any g q n c op a m _ hm (by omega) (by omega) (by omega) (by omega) (by omega) o.hnc W hf (Lies.part (hc.below hW) a m (by omega))
theorem pLoad_no {w:World} {p:Option Addr} {n c:Nat} {f:Nat→Int} (o:Bys w p n c f) (op:Int) (a:Nat) (a1:(a:Int)≤4294967295) (ho:¬(0<ldn op∧(a:Int)%ldn op=0∧(a:Int)+ldn op≤n)):
  ∀W,Below w.heap.size w W→Calls Tryz.prog 94 #[.slice p n c,.int .i64 op,.int .u32 a] W fun e w'=>e=.returned (.tuple #[.int .u32 0,.bool false])∧w'=W:=by
 have hn:=o.hn
 exact fun W _=>Load_no p n c op a (by omega) (by omega) (by omega) ho W
theorem pStores_yes {w:World} {p:Option Addr} {n c:Nat} {f:Nat→Int} (o:Bys w p n c f) (op:Int) (a K:Nat) (hK:stn op=(K:Int)) (a1:(a:Int)≤4294967295) (ho:0<stn op∧(a:Int)%stn op=0∧(a:Int)+stn op≤n):
  ∀W,Calls Tryz.prog 85 #[.slice p n c,.int .i64 op,.int .u32 a] W fun e w'=>e=.returned (.int .u32 K)∧w'=W:=fun W=>by
 have hn:=o.hn
 have h:=Stores_yes p n c op a (by omega) (by omega) (by omega) ho W
 rw[hK]at h
 exact h
theorem pStores_no {w:World} {p:Option Addr} {n c:Nat} {f:Nat→Int} (o:Bys w p n c f) (op:Int) (a:Nat) (a1:(a:Int)≤4294967295) (ho:¬(0<stn op∧(a:Int)%stn op=0∧(a:Int)+stn op≤n)):
  ∀W,Calls Tryz.prog 85 #[.slice p n c,.int .i64 op,.int .u32 a] W fun e w'=>e=.returned (.int .u32 0)∧w'=W:=fun W=>by
 have hn:=o.hn
 exact Stores_no p n c op a (by omega) (by omega) (by omega) ho W
theorem fits_iff {n:Nat} {x m:Int}:fits n x m=true↔0≤x∧x%m=0∧x+m≤n:=by unfold fits;simp
theorem hgive_any (pc nx v:Int) (rd:Nat) (W:World):
  Calls Tryz.prog 106 #[cv pc nx 0 0 0 0 0 0 0 false 0,.int .i64 rd,.int .u32 v] W fun e w'=>e=.returned (cv pc nx 0 0 rd (if rd=0 then 0 else v) 0 0 0 false 0)∧Below W.heap.size W w':=by
 by_cases h:rd=0
 ·subst h
  exact hgive_no pc nx v W
 ·rw[if_neg h]
  exact hgive_yes pc nx v rd (by simp;omega) W
theorem hDo_load11 (rd s1 s2:Nat) (I pc a b:Int) (p0:0≤pc) (p1:pc≤4294967295) (a0:0≤a) (a1:a≤4294967295) (w:World) {p:Option Addr} {n c:Nat} {f:Nat→Int} (o:Bys w p n c f):
  Calls Tryz.prog 75 #[iv 11 rd s1 s2 I,.int .u32 pc,.int .u32 a,.int .u32 b,.slice p n c] w fun e w'=>e=.returned (cvC (loadC n f ⟨11,rd,s1,s2,I⟩ pc a))∧Below w.heap.size w w':=by
 obtain⟨q,hq⟩:=Int.eq_ofNat_of_zero_le (show 0≤(a+I)%4294967296 by omega)
 have hpl:place ⟨11,rd,s1,s2,I⟩ a=(q:Int):=hq
 have q1:(q:Int)≤4294967295:=by omega
 by_cases ho:0<ldn 11∧(q:Int)%ldn 11=0∧(q:Int)+ldn 11≤n
 ·have CM:=pLoad_yes o 11 q q1 ho
  rw[←hq]at CM
  have e:loadC n f ⟨11,rd,s1,s2,I⟩ pc a=onC pc rd (ldv 11 (fun i=>f (q+i))):=by
   unfold loadC
   rw[hpl,if_pos (fits_iff.2 ⟨by omega,ho.2⟩)]
   rfl
  rw[e]
  exact hdLoad11 pc p n c w I a b _ true rd s1 s2 _ (cC_ok _) CM (fun W=>hLoaded_yes 11 I pc _ _ rd s1 s2 W (fun W=>honward_any pc p0 p1 W) _ _ (fun W=>hgive_any pc _ _ rd W)) a0 a1
 ·have CM:=pLoad_no o 11 q q1 ho
  rw[←hq]at CM
  have e:loadC n f ⟨11,rd,s1,s2,I⟩ pc a=trapC pc 3:=by
   unfold loadC
   rw[hpl,if_neg (fun h=>ho ⟨by decide,(fits_iff.1 h).2⟩)]
  rw[e]
  exact hdLoad11 pc p n c w I a b _ false rd s1 s2 _ (cC_ok _) CM (fun W=>hLoaded_no 11 rd s1 s2 I pc _ W) a0 a1
theorem hDo_load12 (rd s1 s2:Nat) (I pc a b:Int) (p0:0≤pc) (p1:pc≤4294967295) (a0:0≤a) (a1:a≤4294967295) (w:World) {p:Option Addr} {n c:Nat} {f:Nat→Int} (o:Bys w p n c f):
  Calls Tryz.prog 75 #[iv 12 rd s1 s2 I,.int .u32 pc,.int .u32 a,.int .u32 b,.slice p n c] w fun e w'=>e=.returned (cvC (loadC n f ⟨12,rd,s1,s2,I⟩ pc a))∧Below w.heap.size w w':=by
 obtain⟨q,hq⟩:=Int.eq_ofNat_of_zero_le (show 0≤(a+I)%4294967296 by omega)
 have hpl:place ⟨12,rd,s1,s2,I⟩ a=(q:Int):=hq
 have q1:(q:Int)≤4294967295:=by omega
 by_cases ho:0<ldn 12∧(q:Int)%ldn 12=0∧(q:Int)+ldn 12≤n
 ·have CM:=pLoad_yes o 12 q q1 ho
  rw[←hq]at CM
  have e:loadC n f ⟨12,rd,s1,s2,I⟩ pc a=onC pc rd (ldv 12 (fun i=>f (q+i))):=by
   unfold loadC
   rw[hpl,if_pos (fits_iff.2 ⟨by omega,ho.2⟩)]
   rfl
  rw[e]
  exact hdLoad12 pc p n c w I a b _ true rd s1 s2 _ (cC_ok _) CM (fun W=>hLoaded_yes 12 I pc _ _ rd s1 s2 W (fun W=>honward_any pc p0 p1 W) _ _ (fun W=>hgive_any pc _ _ rd W)) a0 a1
 ·have CM:=pLoad_no o 12 q q1 ho
  rw[←hq]at CM
  have e:loadC n f ⟨12,rd,s1,s2,I⟩ pc a=trapC pc 3:=by
   unfold loadC
   rw[hpl,if_neg (fun h=>ho ⟨by decide,(fits_iff.1 h).2⟩)]
  rw[e]
  exact hdLoad12 pc p n c w I a b _ false rd s1 s2 _ (cC_ok _) CM (fun W=>hLoaded_no 12 rd s1 s2 I pc _ W) a0 a1
theorem hDo_load13 (rd s1 s2:Nat) (I pc a b:Int) (p0:0≤pc) (p1:pc≤4294967295) (a0:0≤a) (a1:a≤4294967295) (w:World) {p:Option Addr} {n c:Nat} {f:Nat→Int} (o:Bys w p n c f):
  Calls Tryz.prog 75 #[iv 13 rd s1 s2 I,.int .u32 pc,.int .u32 a,.int .u32 b,.slice p n c] w fun e w'=>e=.returned (cvC (loadC n f ⟨13,rd,s1,s2,I⟩ pc a))∧Below w.heap.size w w':=by
 obtain⟨q,hq⟩:=Int.eq_ofNat_of_zero_le (show 0≤(a+I)%4294967296 by omega)
 have hpl:place ⟨13,rd,s1,s2,I⟩ a=(q:Int):=hq
 have q1:(q:Int)≤4294967295:=by omega
 by_cases ho:0<ldn 13∧(q:Int)%ldn 13=0∧(q:Int)+ldn 13≤n
 ·have CM:=pLoad_yes o 13 q q1 ho
  rw[←hq]at CM
  have e:loadC n f ⟨13,rd,s1,s2,I⟩ pc a=onC pc rd (ldv 13 (fun i=>f (q+i))):=by
   unfold loadC
   rw[hpl,if_pos (fits_iff.2 ⟨by omega,ho.2⟩)]
   rfl
  rw[e]
  exact hdLoad13 pc p n c w I a b _ true rd s1 s2 _ (cC_ok _) CM (fun W=>hLoaded_yes 13 I pc _ _ rd s1 s2 W (fun W=>honward_any pc p0 p1 W) _ _ (fun W=>hgive_any pc _ _ rd W)) a0 a1
 ·have CM:=pLoad_no o 13 q q1 ho
  rw[←hq]at CM
  have e:loadC n f ⟨13,rd,s1,s2,I⟩ pc a=trapC pc 3:=by
   unfold loadC
   rw[hpl,if_neg (fun h=>ho ⟨by decide,(fits_iff.1 h).2⟩)]
  rw[e]
  exact hdLoad13 pc p n c w I a b _ false rd s1 s2 _ (cC_ok _) CM (fun W=>hLoaded_no 13 rd s1 s2 I pc _ W) a0 a1
theorem hDo_load14 (rd s1 s2:Nat) (I pc a b:Int) (p0:0≤pc) (p1:pc≤4294967295) (a0:0≤a) (a1:a≤4294967295) (w:World) {p:Option Addr} {n c:Nat} {f:Nat→Int} (o:Bys w p n c f):
  Calls Tryz.prog 75 #[iv 14 rd s1 s2 I,.int .u32 pc,.int .u32 a,.int .u32 b,.slice p n c] w fun e w'=>e=.returned (cvC (loadC n f ⟨14,rd,s1,s2,I⟩ pc a))∧Below w.heap.size w w':=by
 obtain⟨q,hq⟩:=Int.eq_ofNat_of_zero_le (show 0≤(a+I)%4294967296 by omega)
 have hpl:place ⟨14,rd,s1,s2,I⟩ a=(q:Int):=hq
 have q1:(q:Int)≤4294967295:=by omega
 by_cases ho:0<ldn 14∧(q:Int)%ldn 14=0∧(q:Int)+ldn 14≤n
 ·have CM:=pLoad_yes o 14 q q1 ho
  rw[←hq]at CM
  have e:loadC n f ⟨14,rd,s1,s2,I⟩ pc a=onC pc rd (ldv 14 (fun i=>f (q+i))):=by
   unfold loadC
   rw[hpl,if_pos (fits_iff.2 ⟨by omega,ho.2⟩)]
   rfl
  rw[e]
  exact hdLoad14 pc p n c w I a b _ true rd s1 s2 _ (cC_ok _) CM (fun W=>hLoaded_yes 14 I pc _ _ rd s1 s2 W (fun W=>honward_any pc p0 p1 W) _ _ (fun W=>hgive_any pc _ _ rd W)) a0 a1
 ·have CM:=pLoad_no o 14 q q1 ho
  rw[←hq]at CM
  have e:loadC n f ⟨14,rd,s1,s2,I⟩ pc a=trapC pc 3:=by
   unfold loadC
   rw[hpl,if_neg (fun h=>ho ⟨by decide,(fits_iff.1 h).2⟩)]
  rw[e]
  exact hdLoad14 pc p n c w I a b _ false rd s1 s2 _ (cC_ok _) CM (fun W=>hLoaded_no 14 rd s1 s2 I pc _ W) a0 a1
theorem hDo_load15 (rd s1 s2:Nat) (I pc a b:Int) (p0:0≤pc) (p1:pc≤4294967295) (a0:0≤a) (a1:a≤4294967295) (w:World) {p:Option Addr} {n c:Nat} {f:Nat→Int} (o:Bys w p n c f):
  Calls Tryz.prog 75 #[iv 15 rd s1 s2 I,.int .u32 pc,.int .u32 a,.int .u32 b,.slice p n c] w fun e w'=>e=.returned (cvC (loadC n f ⟨15,rd,s1,s2,I⟩ pc a))∧Below w.heap.size w w':=by
 obtain⟨q,hq⟩:=Int.eq_ofNat_of_zero_le (show 0≤(a+I)%4294967296 by omega)
 have hpl:place ⟨15,rd,s1,s2,I⟩ a=(q:Int):=hq
 have q1:(q:Int)≤4294967295:=by omega
 by_cases ho:0<ldn 15∧(q:Int)%ldn 15=0∧(q:Int)+ldn 15≤n
 ·have CM:=pLoad_yes o 15 q q1 ho
  rw[←hq]at CM
  have e:loadC n f ⟨15,rd,s1,s2,I⟩ pc a=onC pc rd (ldv 15 (fun i=>f (q+i))):=by
   unfold loadC
   rw[hpl,if_pos (fits_iff.2 ⟨by omega,ho.2⟩)]
   rfl
  rw[e]
  exact hdLoad15 pc p n c w I a b _ true rd s1 s2 _ (cC_ok _) CM (fun W=>hLoaded_yes 15 I pc _ _ rd s1 s2 W (fun W=>honward_any pc p0 p1 W) _ _ (fun W=>hgive_any pc _ _ rd W)) a0 a1
 ·have CM:=pLoad_no o 15 q q1 ho
  rw[←hq]at CM
  have e:loadC n f ⟨15,rd,s1,s2,I⟩ pc a=trapC pc 3:=by
   unfold loadC
   rw[hpl,if_neg (fun h=>ho ⟨by decide,(fits_iff.1 h).2⟩)]
  rw[e]
  exact hdLoad15 pc p n c w I a b _ false rd s1 s2 _ (cC_ok _) CM (fun W=>hLoaded_no 15 rd s1 s2 I pc _ W) a0 a1
theorem hDo_store16 (rd s1 s2:Nat) (I pc a b:Int) (p0:0≤pc) (p1:pc≤4294967295) (a0:0≤a) (a1:a≤4294967295) (b0:0≤b) (b1:b≤4294967295) (w:World) {p:Option Addr} {n c:Nat} {f:Nat→Int} (o:Bys w p n c f):
  Calls Tryz.prog 75 #[iv 16 rd s1 s2 I,.int .u32 pc,.int .u32 a,.int .u32 b,.slice p n c] w fun e w'=>e=.returned (cvC (doW ⟨16,rd,s1,s2,I⟩ pc a b n))∧Below w.heap.size w w':=by
 obtain⟨q,hq⟩:=Int.eq_ofNat_of_zero_le (show 0≤(a+I)%4294967296 by omega)
 have hpl:place ⟨16,rd,s1,s2,I⟩ a=(q:Int):=hq
 have q1:(q:Int)≤4294967295:=by omega
 have hs:sts ⟨16,rd,s1,s2,I⟩=true:=rfl
 by_cases ho:0<stn 16∧(q:Int)%stn 16=0∧(q:Int)+stn 16≤n
 ·have CM:=pStores_yes o 16 q 1 rfl q1 ho
  rw[←hq]at CM
  have e:doW ⟨16,rd,s1,s2,I⟩ pc a b n=⟨pc,(pc+4)%4294967296,0,0,0,0,(a+I)%4294967296,1,b%p256 1,false,0⟩:=by
   unfold doW
   rw[if_pos hs,if_pos (fits_iff.2 (by rw[hpl];exact⟨by omega,ho.2⟩))]
   rfl
  rw[e]
  exact hdStore16 pc p n c w I a b rd s1 s2 _ (cC_ok _) (fun W hW=>hstore_yes 16 rd s1 s2 I pc a b _ _ 1 (by omega) p n c a0 a1 W CM (fun W=>honward_any pc p0 p1 W) (fun W=>lowest_any b 1 (by omega) b0 b1 W))
 ·have CM:=pStores_no o 16 q q1 ho
  rw[←hq]at CM
  have e:doW ⟨16,rd,s1,s2,I⟩ pc a b n=trapC pc 4:=by
   unfold doW
   rw[if_pos hs,if_neg (fun h=>ho (by rw[hpl]at h;exact⟨by decide,(fits_iff.1 h).2⟩))]
  rw[e]
  exact hdStore16 pc p n c w I a b rd s1 s2 _ (cC_ok _) (fun W hW=>hstore_no 16 rd s1 s2 I pc a b p n c a0 a1 W CM)
theorem hDo_store17 (rd s1 s2:Nat) (I pc a b:Int) (p0:0≤pc) (p1:pc≤4294967295) (a0:0≤a) (a1:a≤4294967295) (b0:0≤b) (b1:b≤4294967295) (w:World) {p:Option Addr} {n c:Nat} {f:Nat→Int} (o:Bys w p n c f):
  Calls Tryz.prog 75 #[iv 17 rd s1 s2 I,.int .u32 pc,.int .u32 a,.int .u32 b,.slice p n c] w fun e w'=>e=.returned (cvC (doW ⟨17,rd,s1,s2,I⟩ pc a b n))∧Below w.heap.size w w':=by
 obtain⟨q,hq⟩:=Int.eq_ofNat_of_zero_le (show 0≤(a+I)%4294967296 by omega)
 have hpl:place ⟨17,rd,s1,s2,I⟩ a=(q:Int):=hq
 have q1:(q:Int)≤4294967295:=by omega
 have hs:sts ⟨17,rd,s1,s2,I⟩=true:=rfl
 by_cases ho:0<stn 17∧(q:Int)%stn 17=0∧(q:Int)+stn 17≤n
 ·have CM:=pStores_yes o 17 q 2 rfl q1 ho
  rw[←hq]at CM
  have e:doW ⟨17,rd,s1,s2,I⟩ pc a b n=⟨pc,(pc+4)%4294967296,0,0,0,0,(a+I)%4294967296,2,b%p256 2,false,0⟩:=by
   unfold doW
   rw[if_pos hs,if_pos (fits_iff.2 (by rw[hpl];exact⟨by omega,ho.2⟩))]
   rfl
  rw[e]
  exact hdStore17 pc p n c w I a b rd s1 s2 _ (cC_ok _) (fun W hW=>hstore_yes 17 rd s1 s2 I pc a b _ _ 2 (by omega) p n c a0 a1 W CM (fun W=>honward_any pc p0 p1 W) (fun W=>lowest_any b 2 (by omega) b0 b1 W))
 ·have CM:=pStores_no o 17 q q1 ho
  rw[←hq]at CM
  have e:doW ⟨17,rd,s1,s2,I⟩ pc a b n=trapC pc 4:=by
   unfold doW
   rw[if_pos hs,if_neg (fun h=>ho (by rw[hpl]at h;exact⟨by decide,(fits_iff.1 h).2⟩))]
  rw[e]
  exact hdStore17 pc p n c w I a b rd s1 s2 _ (cC_ok _) (fun W hW=>hstore_no 17 rd s1 s2 I pc a b p n c a0 a1 W CM)
theorem hDo_store18 (rd s1 s2:Nat) (I pc a b:Int) (p0:0≤pc) (p1:pc≤4294967295) (a0:0≤a) (a1:a≤4294967295) (b0:0≤b) (b1:b≤4294967295) (w:World) {p:Option Addr} {n c:Nat} {f:Nat→Int} (o:Bys w p n c f):
  Calls Tryz.prog 75 #[iv 18 rd s1 s2 I,.int .u32 pc,.int .u32 a,.int .u32 b,.slice p n c] w fun e w'=>e=.returned (cvC (doW ⟨18,rd,s1,s2,I⟩ pc a b n))∧Below w.heap.size w w':=by
 obtain⟨q,hq⟩:=Int.eq_ofNat_of_zero_le (show 0≤(a+I)%4294967296 by omega)
 have hpl:place ⟨18,rd,s1,s2,I⟩ a=(q:Int):=hq
 have q1:(q:Int)≤4294967295:=by omega
 have hs:sts ⟨18,rd,s1,s2,I⟩=true:=rfl
 by_cases ho:0<stn 18∧(q:Int)%stn 18=0∧(q:Int)+stn 18≤n
 ·have CM:=pStores_yes o 18 q 4 rfl q1 ho
  rw[←hq]at CM
  have e:doW ⟨18,rd,s1,s2,I⟩ pc a b n=⟨pc,(pc+4)%4294967296,0,0,0,0,(a+I)%4294967296,4,b%p256 4,false,0⟩:=by
   unfold doW
   rw[if_pos hs,if_pos (fits_iff.2 (by rw[hpl];exact⟨by omega,ho.2⟩))]
   rfl
  rw[e]
  exact hdStore18 pc p n c w I a b rd s1 s2 _ (cC_ok _) (fun W hW=>hstore_yes 18 rd s1 s2 I pc a b _ _ 4 (by omega) p n c a0 a1 W CM (fun W=>honward_any pc p0 p1 W) (fun W=>lowest_any b 4 (by omega) b0 b1 W))
 ·have CM:=pStores_no o 18 q q1 ho
  rw[←hq]at CM
  have e:doW ⟨18,rd,s1,s2,I⟩ pc a b n=trapC pc 4:=by
   unfold doW
   rw[if_pos hs,if_neg (fun h=>ho (by rw[hpl]at h;exact⟨by decide,(fits_iff.1 h).2⟩))]
  rw[e]
  exact hdStore18 pc p n c w I a b rd s1 s2 _ (cC_ok _) (fun W hW=>hstore_no 18 rd s1 s2 I pc a b p n c a0 a1 W CM)
theorem itab_imm:∀m,m<28→19≤m→itab.getD m 0=opn m:=by decide
theorem itab_oth:∀m,m<46→5≤m→¬(19≤m∧m≤27)→itab.getD m 0=0:=by decide
theorem opn_nz:∀m:Nat,m<28→19≤m→(opn m != 0)=true:=by decide
theorem hnext_any (i:In) (h1:1≤i.op) (h2:i.op<46) (pc a b:Int) (p0:0≤pc) (p1:pc≤4294967295) (a0:0≤a) (a1:a≤4294967295) (b0:0≤b) (b1:b≤4294967295) (W:World):
  Calls Tryz.prog 110 #[ivI i,.int .u32 pc,.int .u32 a,.int .u32 b] W fun e w'=>e=.returned (.int .u32 (nxW i pc a b))∧Below W.heap.size W w':=by
 obtain⟨op,rd,s1,s2,I⟩:=i
 have HB:=fun W=>Holds_any op a b a0 a1 b0 b1 W
 unfold nxW
 simp only[]at h1 h2⊢
 by_cases e3:op=3
 ·subst e3
  rw[if_pos rfl]
  exact hnext_jal rd s1 s2 I pc a b p0 p1 W
 ·rw[if_neg e3]
  by_cases e4:op=4
  ·subst e4
   rw[if_pos rfl]
   exact hnext_jalr rd s1 s2 I pc a b p0 p1 a0 a1 (fun W=>by have h:=HB W;rwa [holds_none _ _ _ (by omega) (by omega) (by omega) (by omega) (by omega) (by omega)]at h) W
  ·rw[if_neg e4]
   cases hb:holds op a b with
   |true=>
    rw[hb]at HB
    rw[if_pos rfl]
    exact hnext_go op rd s1 s2 I pc a b p0 p1 (beq_eq_false_iff_ne.2 e3) HB W
   |false=>
    rw[hb]at HB
    rw[if_neg (by decide)]
    exact hnext_on op rd s1 s2 I pc a b p0 p1 (beq_eq_false_iff_ne.2 e3) (beq_eq_false_iff_ne.2 e4) HB W
theorem hreckon_any (i:In) (h1:1≤i.op) (h2:i.op<46) (pc a b:Int) (p0:0≤pc) (p1:pc≤4294967295) (a0:0≤a) (a1:a≤4294967295) (b0:0≤b) (b1:b≤4294967295) (W:World) (hT2:Tab2 W):
  Calls Tryz.prog 111 #[ivI i,.int .u32 pc,.int .u32 a,.int .u32 b] W fun e w'=>e=.returned (.int .u32 (rkW i pc a b))∧Below W.heap.size W w':=by
 obtain⟨op,rd,s1,s2,I⟩:=i
 unfold rkW
 simp only[]at h1 h2⊢
 by_cases e1:op=1
 ·subst e1;rw[if_pos rfl];exact hreckon_lui rd s1 s2 I pc a b W
 ·rw[if_neg e1]
  by_cases e2:op=2
  ·subst e2;rw[if_pos rfl];exact hreckon_auipc rd s1 s2 I pc a b p0 p1 W
  ·rw[if_neg e2]
   by_cases e3:op=3
   ·subst e3;rw[if_pos (.inl rfl)];exact hreckon_jal rd s1 s2 I pc a b p0 p1 W
   ·by_cases e4:op=4
    ·subst e4;rw[if_pos (.inr rfl)];exact hreckon_jalr rd s1 s2 I pc a b p0 p1 W
    ·rw[if_neg (by omega)]
     obtain⟨m,hm⟩:=Int.eq_ofNat_of_zero_le (show 0≤op by omega)
     subst hm
     by_cases e5:19≤(m:Int)∧(m:Int)≤27
     ·rw[if_pos e5]
      exact hreckon_imm m rd s1 s2 I pc a b (opn m) _ (by omega) (by omega) (itab_imm m (by omega) (by omega)) (opn_nz m (by omega) (by omega)) (fun W=>Alu_any (opn m) a (I%4294967296) a0 a1 (by omega) (by omega) W) W hT2
     ·rw[if_neg e5]
      exact hreckon_reg m rd s1 s2 I pc a b _ (by omega) (by omega) (itab_oth m (by omega) (by omega) (by omega)) (fun W=>Alu_any m a b a0 a1 b0 b1 W) W hT2
theorem hDo_any (i:In) (hi:InOk i) (pc a b:Int) (p0:0≤pc) (p1:pc≤4294967295) (a0:0≤a) (a1:a≤4294967295) (b0:0≤b) (b1:b≤4294967295) (w:World) {p:Option Addr} {n c:Nat} {f:Nat→Int} (o:Bys w p n c f) (hT2:Tab2 w):
  Calls Tryz.prog 75 #[ivI i,.int .u32 pc,.int .u32 a,.int .u32 b,.slice p n c] w fun e w'=>e=.returned (cvC (allW n f i pc a b))∧Below w.heap.size w w':=by
 obtain⟨op,rd,s1,s2,I⟩:=i
 have o0:1≤op:=hi.o0
 have o1:op≤48:=hi.o1
 by_cases hl:11≤op∧op≤15
 ·have e:allW n f ⟨op,rd,s1,s2,I⟩ pc a b=loadC n f ⟨op,rd,s1,s2,I⟩ pc a:=by
   unfold allW
   refine if_pos ?_
   show ldn op≠0
   rcases(by omega:op=11∨op=12∨op=13∨op=14∨op=15)with rfl|rfl|rfl|rfl|rfl<;>decide
  rw[e]
  rcases(by omega:op=11∨op=12∨op=13∨op=14∨op=15)with rfl|rfl|rfl|rfl|rfl
  ·exact hDo_load11 rd s1 s2 I pc a b p0 p1 a0 a1 w o
  ·exact hDo_load12 rd s1 s2 I pc a b p0 p1 a0 a1 w o
  ·exact hDo_load13 rd s1 s2 I pc a b p0 p1 a0 a1 w o
  ·exact hDo_load14 rd s1 s2 I pc a b p0 p1 a0 a1 w o
  ·exact hDo_load15 rd s1 s2 I pc a b p0 p1 a0 a1 w o
 ·have e:allW n f ⟨op,rd,s1,s2,I⟩ pc a b=doW ⟨op,rd,s1,s2,I⟩ pc a b n:=by
   unfold allW
   refine if_neg ?_
   show¬(ldn op≠0)
   unfold ldn
   rw[if_neg (by omega),if_neg (by omega),if_neg (by omega)]
   exact fun h=>h rfl
  rw[e]
  by_cases hs:16≤op∧op≤18
  ·rcases(by omega:op=16∨op=17∨op=18)with rfl|rfl|rfl
   ·exact hDo_store16 rd s1 s2 I pc a b p0 p1 a0 a1 b0 b1 w o
   ·exact hDo_store17 rd s1 s2 I pc a b p0 p1 a0 a1 b0 b1 w o
   ·exact hDo_store18 rd s1 s2 I pc a b p0 p1 a0 a1 b0 b1 w o
  ·have hs':¬sts ⟨op,rd,s1,s2,I⟩=true:=by unfold sts;simpa using hs
   unfold doW
   rw[if_neg hs']
   by_cases e46:op=46
   ·subst e46
    rw[if_pos rfl]
    exact hdFence pc p n c w I a b rd s1 s2 _ (cC_ok _) (fun W _=>honward_any pc p0 p1 W)
   ·rw[if_neg e46]
    by_cases e47:op=47
    ·subst e47
     rw[if_pos rfl]
     by_cases z0:a=0
     ·subst z0
      rw[if_pos rfl]
      exact hdCall pc p n c w I 0 b rd s1 s2 _ (cC_ok _) (fun W _=>hcall_0 pc b W)
     ·rw[if_neg z0]
      by_cases z1:a=1
      ·subst z1
       rw[if_pos rfl]
       exact hdCall pc p n c w I 1 b rd s1 s2 _ (cC_ok _) (fun W _=>hcall_1 pc b _ W (fun W=>honward_any pc p0 p1 W))
      ·rw[if_neg z1]
       exact hdCall pc p n c w I a b rd s1 s2 _ (cC_ok _) (fun W _=>hcall_x pc a b (beq_eq_false_iff_ne.2 z0) (beq_eq_false_iff_ne.2 z1) W)
    ·rw[if_neg e47]
     by_cases e48:op=48
     ·subst e48
      rw[if_pos rfl]
      exact hdBreak pc p n c w I a b rd s1 s2 _ (cC_ok _) (fun W _=>htrap_any pc 6 W)
     ·rw[if_neg e48]
      exact hdRest pc p n c w I a b op _ _ rd s1 s2 _ (cC_ok _) o0 (by omega) (by omega) (fun W hW=>hnext_any ⟨op,rd,s1,s2,I⟩ o0 (by show op<46;omega) pc a b p0 p1 a0 a1 b0 b1 W) (fun W hW=>hreckon_any ⟨op,rd,s1,s2,I⟩ o0 (by show op<46;omega) pc a b p0 p1 a0 a1 b0 b1 W (hT2.below hW hT2.size)) (fun W=>hgive_any pc _ _ rd W)
theorem hReads_any (i:In) (w:World):
  Calls Tryz.prog 115 #[ivI i] w fun e w'=>e=.returned (.tuple #[.int .i64 (ra i),.int .i64 (rb i)])∧Below w.heap.size w w':=by
 obtain⟨op,rd,s1,s2,I⟩:=i
 unfold ra rb
 simp only[]
 by_cases h:op=47
 ·subst h
  go_enter Tryz.func115,Tryz.ntmps115
  go_wp2
  go_ret2
  exact⟨rfl,(Below.refl _ _).alloc (Nat.le_refl _) _⟩
 ·have hq:(op==47)=false:=beq_eq_false_iff_ne.2 h
  rw[if_neg h,if_neg h]
  go_enter Tryz.func115,Tryz.ntmps115
  go_wp2
  go_region
  go_wp2
  go_ret2
  exact⟨rfl,((Below.refl _ _).alloc (Nat.le_refl _) _).drew⟩
end Go.Proofs.YtpiohehijkpghabGreatDoor
namespace Go.Proofs.YtpiohehijkpghabGreatDoor.Re
open Go.RowKit
open Re.Hy
set_option linter.unusedVariables false
structure Lie (w:World) (a:Option Addr) (n c:Nat) (f:Nat→Int):Prop where
 le:n≤c
 top:c≤maxLen
 nil:a=none→n=0∧c=0
 wf:∀i,i<n→(Lit.int .i64 (f i)).wf=true
 ad:∀x,a=some x→0<n→∃b o,x=⟨b,o,none⟩∧∀i,i<n→w.cell? ⟨b,o+i,none⟩=some (.int .i64 (f i))
theorem Lie.below {w w':World} {a:Option Addr} {n c:Nat} {f:Nat→Int} (h:Lie w a n c f) {B:Nat} (hB:w.heap.size≤B) (hb:Below B w w'):Lie w' a n c f:=
 ⟨h.le,h.top,h.nil,h.wf,fun x hx h0=>by
  obtain⟨b,o,rfl,hc⟩:=h.ad x hx h0
  exact⟨b,o,rfl,fun i hi=>(hb.cell (p:=⟨b,o+i,none⟩) (Nat.lt_of_lt_of_le (World.block_lt_of_cell? _ _ (hc i hi)) hB)).trans (hc i hi)⟩⟩
theorem Lie.congr {w:World} {a:Option Addr} {n c:Nat} {f f':Nat→Int} (h:Lie w a n c f) (e:∀i,i<n→f i=f' i):Lie w a n c f':=
 ⟨h.le,h.top,h.nil,fun i hi=>by rw[←e i hi];exact h.wf i hi,fun x hx h0=>by
  obtain⟨b,o,rfl,hc⟩:=h.ad x hx h0
  exact⟨b,o,rfl,fun i hi=>by rw[←e i hi];exact hc i hi⟩⟩
theorem Lie.sure {w:World} {a:Option Addr} {n c:Nat} {f:Nat→Int} (h:Lie w a n c f) (hn:0<n):∃b o,a=some ⟨b,o,none⟩∧b<w.heap.size∧∀i,i<n→w.cell? ⟨b,o+i,none⟩=some (.int .i64 (f i)):=by
 cases a with
 |none=>have:=(h.nil rfl).1;omega
 |some x=>
  obtain⟨b,o,rfl,hc⟩:=h.ad x rfl hn
  exact⟨b,o,rfl,World.block_lt_of_cell? _ _ (hc 0 hn),hc⟩
def Far (B:Nat) (a:Option Addr):Prop:=∀x,a=some x→B≤x.block
theorem Far.mono {B B':Nat} {a:Option Addr} (h:Far B a) (hB:B'≤B):Far B' a:=fun x hx=>Nat.le_trans hB (h x hx)
theorem Lie.moved {w w':World} {a:Option Addr} {n c:Nat} {f:Nat→Int} (h:Lie w a n c f) (hb:∀x,a=some x→w'.heap[x.block]?=w.heap[x.block]?):Lie w' a n c f:=
 ⟨h.le,h.top,h.nil,h.wf,fun x hx h0=>by
  have e:=hb x hx
  obtain⟨b,o,rfl,hc⟩:=h.ad x hx h0
  exact⟨b,o,rfl,fun i hi=>(World.cell?_of_block (w:=w) (a:=⟨b,o+i,none⟩) e).trans (hc i hi)⟩⟩
def row (f:Nat→Int) (n:Nat):List Value:=(List.range n).map fun i=>Value.int .i64 (f i)
theorem row_len (f:Nat→Int) (n:Nat):(row f n).length=n:=by simp[row]
theorem row_at {f:Nat→Int} {n j:Nat} {u:Value} (h:(row f n)[j]?=some u):j<n∧u=.int .i64 (f j):=by
 have hj:j<n:=by have:=(List.getElem?_eq_some_iff.1 h).1;rwa [row_len]at this
 refine⟨hj,?_⟩
 simp[row,hj]at h
 exact h.symm
theorem row_get (f:Nat→Int) {n j:Nat} (h:j<n):(row f n)[j]?=some (.int .i64 (f j)):=by simp[row,h]
theorem row_one (f:Nat→Int) (n:Nat):∀u∈row f n,u.oneCell'=true:=by
 intro u hu
 obtain⟨x,_,rfl⟩:=List.mem_map.1 hu
 rfl
def cat (F:Nat→Int) (n:Nat) (f:Nat→Int) (i:Nat):Int:=if i<n then F i else f (i-n)
theorem row_cat (F:Nat→Int) (n:Nat) (f:Nat→Int) (m:Nat):row F n++row f m=row (cat F n f) (n+m):=by
 apply List.ext_getElem?
 intro j
 by_cases h:j<n
 ·rw[List.getElem?_append_left (by rw[row_len];exact h),row_get _ h,row_get _ (by omega)]
  unfold cat
  rw[if_pos h]
 ·rw[List.getElem?_append_right (by rw[row_len];omega),row_len]
  by_cases h2:j<n+m
  ·rw[row_get _ (by omega),row_get _ h2]
   unfold cat
   rw[if_neg h]
  ·rw[List.getElem?_eq_none (by rw[row_len];omega),List.getElem?_eq_none (by rw[row_len];omega)]
theorem row_congr {f f':Nat→Int} {n:Nat} (e:∀i,i<n→f i=f' i):row f n=row f' n:=by
 unfold row
 apply List.map_congr_left
 intro i hi
 rw[e i (by simpa using hi)]
theorem lie_of_own {w:World} {B e n:Nat} {v:Value} {f:Nat→Int} (hown:w.ownsRow B e 1 v n (row f n)) (hw:∀i,i<n→(Lit.int .i64 (f i)).wf=true):∃a c,v=.slice a n c∧Lie w a n c f∧Far B a:=by
 have hown0:=hown
 obtain⟨_,hcase⟩:=hown
 rcases hcase with⟨rfl,rfl⟩|⟨g,cap,cur,rfl,hg,hh,hn',hcap,hsz,htake⟩
 ·exact⟨none,0,rfl,⟨Nat.le_refl _,by unfold maxLen;omega,fun _=>⟨rfl,rfl⟩,hw,fun x hx _=>by cases hx⟩,fun x hx=>by cases hx⟩
 ·refine⟨_,cap,rfl,⟨hn',hcap,fun h=>(nomatch h),hw,fun x hx _=>⟨g,0,(Option.some.inj hx).symm,fun i hi=>?_⟩⟩,fun x hx=>by obtain rfl:=Option.some.inj hx;exact hg⟩
  have:=hown0.cells (g:=g) rfl i _ (row_get f hi)
  rwa [Addr.add_lit]at this
theorem wpList_append_lie {P:Program} (w:World) {ops:Array Oper} {rest:List Oper} {o:Oper} {a:Act} {Q:Exit→Act→World→Prop} (hgd:o.guard=none) (s x:Operand) (t:TypeId)
  (ho:o.op=.call {callee:=.builtin .append,args:=#[s,x],argTypes:=#[t,t]})
  (base:Nat) (e:TypeId) (i:TypeInfo) (ht:P.underlying t=some (.slice e)) (hi:P.info? e=some i) (hz:i.zero=some (.int .i64 0)) (hsize:i.size=1) (hby:i.bytes=8)
  (v:Value) (n:Nat) (F:Nat→Int) (hs:a.eval s=v) (hown:w.ownsRow base e 1 v n (row F n))
  (ao:Option Addr) (m c:Nat) (f:Nat→Int) (hx:a.eval x=.slice ao m c) (hl:Lie w ao m c f) (hb:n+m≤1000000) (hbase:base≤w.heap.size)
  (h:∀v' w',w'.ownsRow base e 1 v' (n+m) (row (cat F n f) (n+m))→w.grownBy w' v.ownBlock→wpList P ops Q rest (a.put o.dst v') w'):wpList P ops Q (o::rest) a w:=by
 cases ao with
 |some ad=>
  refine wpList_append_own w hgd s x t ho base e i (.int .i64 0) 1 8 ht hi hz hsize hby rfl (by decide) v n _ hs hown ad m c (row f m) hx (by rw[row_len];omega) (fun j u hj=>?_) (row_one f m) (by unfold maxLen;omega) (by omega) hbase fun v' w' h1 h2 _=>h v' w' (by rw[←row_cat];exact h1) h2
  obtain⟨hj',rfl⟩:=row_at hj
  obtain⟨b,o',rfl,hc⟩:=hl.ad ad rfl (by omega)
  rw[Addr.add_lit]
  exact hc j hj'
 |none=>
  obtain⟨rfl,rfl⟩:=hl.nil rfl
  refine wpList_plain hgd fun K hK'=>?_
  have hrun:=run_append_owned_none (P:=P) w base t o.type e i 1 ht hi v n _ hown
  unfold Oper.wp
  simp only[execOp,ho,resolve,invoke,builtin,Sem.run_bind,Sem.run_pure,Result.andThen_ok,List.map_toArray,List.map_cons,List.map_nil,hs,hx,hrun]
  exact hK' _ _ (h v w (by rw[←row_cat];simpa[row]using hown) (World.grownBy.refl _ _))
structure Cnts (D:DataW Unit) (g:Nat→Int) (k:Nat):Prop where
 is:Maps.IsMap D
 at':∀x,D.atKey (.int .i64 x) (.lit (.int .i64 0))=.lit (.int .i64 (cn g x k))
theorem cnts_zero (g:Nat→Int):Cnts (.map []) g 0:=⟨⟨[],rfl⟩,fun x=>rfl⟩
theorem Cnts.num {D:DataW Unit} {g:Nat→Int} {k:Nat} (h:Cnts D g k) {x c:Int} (hat:D.atKey (.int .i64 x) (.lit (.int .i64 0))=.lit (.int .i64 c)):c=cn g x k:=by
 have:=(h.at' x).symm.trans hat
 injection this with e
 injection e with _ e
 exact e.symm
theorem Cnts.step {D:DataW Unit} {g:Nat→Int} {k:Nat} (h:Cnts D g k) {y c:Int} (hy:y=c+1) (hc:c=cn g (g k) k):Cnts (D.put (.int .i64 (g k)) (.lit (.int .i64 y))) g (k+1):=by
 refine⟨h.is.put _ _,fun x=>?_⟩
 by_cases e:g k=x
 ·subst e
  rw[Maps.atKey_put_same (k:=.int .i64 (g k)) h.is (show WideAt.IsKeyLit (.int .i64 (g k))from trivial),hy,hc]
  show _=DataW.lit (Lit.int _ ((cn g (g k) k+(if g k=g k then 1 else 0):Nat):Int))
  rw[if_pos rfl]
  rfl
 ·rw[Maps.atKey_put_other (by intro e2;injection e2 with _ e2;exact e e2.symm),h.at' x]
  show _=DataW.lit (Lit.int _ ((cn g x k+(if g k=x then 1 else 0):Nat):Int))
  rw[if_neg e,Nat.add_zero]
theorem wrap_small {c:Int} (h0:0≤c) (h1:c≤1000000):wrap64 c=c:=by
 have:=WalkArith.wf_i64 (n:=c) (by omega)
 unfold wrap64
 first|omega|(simp;omega)
theorem Cnts.next {D:DataW Unit} {g:Nat→Int} {k:Nat} (h:Cnts D g k) {x c:Int} (hx:x=g k) (hat:D.atKey (.int .i64 x) (.lit (.int .i64 0))=.lit (.int .i64 c)) (hk:k<1000000):Cnts (D.put (.int .i64 x) (.lit (.int .i64 (wrap64 (c+1))))) g (k+1):=by
 subst hx
 have e:=h.num hat
 have:=cn_le g (g k) k
 exact h.step (wrap_small (by omega) (by omega)) e
end Go.Proofs.YtpiohehijkpghabGreatDoor.Re
