/- The program's Do, of every instruction; what an instruction reads; its commit. -/
import Derived.Test.YtpiohehijkpghacGreatDoorG10
import Derived.Test.YtpiohehijkpghacGreatDoorG01
set_option maxRecDepth 20000
set_option maxHeartbeats 4000000
namespace Go.Proofs.YtpiohehijkpghacGreatDoor
open Go.RowKit
open Hy
set_option linter.unusedVariables false
set_option linter.unusedSimpArgs false
theorem at_cell {w2s bs:Nat} {W w:World} {b j:Nat} {v:Value} (h:∀b,b<w2s→b≠bs→w.heap[b]?=W.heap[b]?) (hb:b<w2s) (hn:b≠bs) (hv:W.cell? ⟨b,j,none⟩=some v):w.cell? ⟨b,j,none⟩=some v:=
 (World.cell?_of_block (w:=W) (a:=⟨b,j,none⟩) (h b hb hn)).trans hv
theorem hdRest (pc:Int) (p:Option Addr) (n c:Nat) (w:World) (I A B M NX V:Int) (rd s1 s2:Nat) (C:Array Value) (hC:Hid (C.size=11∧Ones C)) (h1:1≤M) (hM:M<11∨18<M) (hM2:M<46)
  (CX:∀W,Below w.heap.size w W→Calls Tryz.prog 133 #[iv M rd s1 s2 I,.int .u32 pc,.int .u32 A,.int .u32 B] W fun e w'=>e=.returned (.int .u32 NX)∧Below W.heap.size W w')
  (CR:∀W,Below w.heap.size w W→Calls Tryz.prog 134 #[iv M rd s1 s2 I,.int .u32 pc,.int .u32 A,.int .u32 B] W fun e w'=>e=.returned (.int .u32 V)∧Below W.heap.size W w')
  (CG:∀W,Calls Tryz.prog 129 #[cv pc NX 0 0 0 0 0 0 0 false 0,.int .i64 rd,.int .u32 V] W fun e w'=>e=.returned (.agg C)∧Below W.heap.size W w'):
  Calls Tryz.prog 90 #[iv M rd s1 s2 I,.int .u32 pc,.int .u32 A,.int .u32 B,.slice p n c] w fun e w'=>e=.returned (.agg C)∧Below w.heap.size w w':=by
 have q11:(M==11)=false:=beq_eq_false_iff_ne.2 (by omega)
 have q12:(M==12)=false:=beq_eq_false_iff_ne.2 (by omega)
 have q13:(M==13)=false:=beq_eq_false_iff_ne.2 (by omega)
 have q14:(M==14)=false:=beq_eq_false_iff_ne.2 (by omega)
 have q15:(M==15)=false:=beq_eq_false_iff_ne.2 (by omega)
 have q16:(M==16)=false:=beq_eq_false_iff_ne.2 (by omega)
 have q17:(M==17)=false:=beq_eq_false_iff_ne.2 (by omega)
 have q18:(M==18)=false:=beq_eq_false_iff_ne.2 (by omega)
 have q46:(M==46)=false:=beq_eq_false_iff_ne.2 (by omega)
 have q47:(M==47)=false:=beq_eq_false_iff_ne.2 (by omega)
 have q48:(M==48)=false:=beq_eq_false_iff_ne.2 (by omega)
 have ql:decide (M<1)=false:=decide_eq_false (by omega)
 have qg:decide ((48:Int)<M)=false:=decide_eq_false (by omega)
 clear hM hM2 h1
 go_enter Tryz.func90,Tryz.ntmps90
 go_wp2_with fail
 obtain⟨W,hW⟩:∃W:World,W=(w.alloc (.cells #[.int .i64 M,.int .i64 rd,.int .i64 s1,.int .i64 s2,.int .i32 I] 78)).alloc (.cells (ccs 0 0 0 0 0 0 0 0 0 false 0) 68):=⟨_,rfl⟩
 rw[←hW]
 have r24:W.heap[w.heap.size]?=some (.cells #[.int .i64 M,.int .i64 rd,.int .i64 s1,.int .i64 s2,.int .i32 I] 78 (0,0)):=by rw[hW];exact heap_alloc2_old _ _ _
 have R38:Hid (W.heap[w.heap.size+1]?=some (.cells (ccs 0 0 0 0 0 0 0 0 0 false 0) 68 (0,0))):=by rw[hW];exact heap_alloc2_new _ _ _
 have hsz:w.heap.size+2≤W.heap.size:=by rw[hW];simp
 have hb:Below w.heap.size w W:=by rw[hW];exact((Below.refl _ _).alloc (Nat.le_refl _) _).alloc (by simp) _
 have y0:=(cell_of_row W w.heap.size 0 _ _ _ r24).trans rfl
 have y1:=(cell_of_row W w.heap.size 1 _ _ _ r24).trans rfl
 have y2:=(cell_of_row W w.heap.size 2 _ _ _ r24).trans rfl
 have y3:=(cell_of_row W w.heap.size 3 _ _ _ r24).trans rfl
 have y4:=(cell_of_row W w.heap.size 4 _ _ _ r24).trans rfl
 have a1:w.heap.size<w.heap.size+2:=by omega
 have a2:w.heap.size+1<w.heap.size+2:=by omega
 clear hW r24
 refine wp_region_held_drew (S:=fun w'=>∀b,b<w.heap.size+2→b≠w.heap.size+1→w'.heap[b]?=W.heap[b]?) (by kernel_rfl) (fun _ _ _=>rfl) (fun hH=>?_)
 refine Co.tI 0 (.int .u32 pc) rfl hH ?_
 try simp only[Act.put,List.setIfInBounds_toArray,List.set_cons_zero,List.set_cons_succ]
 refine Co.tH 1 (.agg #[.int .i64 M,.int .i64 rd,.int .i64 s1,.int .i64 s2,.int .i32 I]) rfl (Or.inl ⟨by rfl,by intro w hSw;have hc0:=at_cell hSw a1 (by omega) y0;have hc1:=at_cell hSw a1 (by omega) y1;have hc2:=at_cell hSw a1 (by omega) y2;have hc3:=at_cell hSw a1 (by omega) y3;have hc4:=at_cell hSw a1 (by omega) y4;go_simp⟩) hH ?_
 try simp only[Act.put,List.setIfInBounds_toArray,List.set_cons_zero,List.set_cons_succ]
 refine Co.tI 2 (.int .u32 pc) rfl hH ?_
 try simp only[Act.put,List.setIfInBounds_toArray,List.set_cons_zero,List.set_cons_succ]
 refine Co.tI 3 (.int .u32 A) rfl hH ?_
 try simp only[Act.put,List.setIfInBounds_toArray,List.set_cons_zero,List.set_cons_succ]
 refine Co.tI 4 (.int .u32 B) rfl hH ?_
 try simp only[Act.put,List.setIfInBounds_toArray,List.set_cons_zero,List.set_cons_succ]
 refine Co.tI 7 (.pointer (some ⟨w.heap.size,1,none⟩)) rfl hH ?_
 try simp only[Act.put,List.setIfInBounds_toArray,List.set_cons_zero,List.set_cons_succ]
 refine Co.tH 8 (.int .i64 rd) rfl (Or.inl ⟨by rfl,by intro w hSw;have hc:=at_cell hSw a1 (by omega) y1;go_simp⟩) hH ?_
 try simp only[Act.put,List.setIfInBounds_toArray,List.set_cons_zero,List.set_cons_succ]
 refine Co.tH 9 (.agg #[.int .i64 M,.int .i64 rd,.int .i64 s1,.int .i64 s2,.int .i32 I]) rfl (Or.inl ⟨by rfl,by intro w hSw;have hc0:=at_cell hSw a1 (by omega) y0;have hc1:=at_cell hSw a1 (by omega) y1;have hc2:=at_cell hSw a1 (by omega) y2;have hc3:=at_cell hSw a1 (by omega) y3;have hc4:=at_cell hSw a1 (by omega) y4;go_simp⟩) hH ?_
 try simp only[Act.put,List.setIfInBounds_toArray,List.set_cons_zero,List.set_cons_succ]
 refine Co.tI 10 (.int .u32 pc) rfl hH ?_
 try simp only[Act.put,List.setIfInBounds_toArray,List.set_cons_zero,List.set_cons_succ]
 refine Co.tI 11 (.int .u32 A) rfl hH ?_
 try simp only[Act.put,List.setIfInBounds_toArray,List.set_cons_zero,List.set_cons_succ]
 refine Co.tI 12 (.int .u32 B) rfl hH ?_
 try simp only[Act.put,List.setIfInBounds_toArray,List.set_cons_zero,List.set_cons_succ]
 refine wpAnyH_ready (rs:=[5]) (by kernel_rfl) (by simp) ?_
 refine AllReadyH.cons rfl (fun K hK=>?_) AllReadyH.nil
 go_simp
 refine(CX _ hb.drew).mono ?_
 rintro e w3 ⟨rfl,hk3⟩
 have hB3:Below W.heap.size W w3:=below_first hk3 (Nat.le_refl _)
 go_wp2_with fail
 refine hK.out _ _ (fun b hb _=>hB3.block b (by omega)) (fun hH=>?_)
 clear hK K
 try simp only[Act.put,List.setIfInBounds_toArray,List.set_cons_zero,List.set_cons_succ]
 refine Co.tI 6 (cv pc NX 0 0 0 0 0 0 0 false 0) rfl hH ?_
 try simp only[Act.put,List.setIfInBounds_toArray,List.set_cons_zero,List.set_cons_succ]
 refine wpAnyH_ready (rs:=[13]) (by kernel_rfl) (by simp) ?_
 refine AllReadyH.cons rfl (fun K hK=>?_) AllReadyH.nil
 go_simp
 refine(CR _ (hb.trans (hB3.mono (by omega)))).mono ?_
 rintro e w4 ⟨rfl,hk4⟩
 have hB4:Below W.heap.size W w4:=below_next hB3 hk4 (Nat.le_refl _)
 go_wp2_with fail
 refine hK.out _ _ (fun b hb _=>hB4.block b (by omega)) (fun hH=>?_)
 clear hK K
 try simp only[Act.put,List.setIfInBounds_toArray,List.set_cons_zero,List.set_cons_succ]
 refine wpAnyH_ready (rs:=[14]) (by kernel_rfl) (by simp) ?_
 refine AllReadyH.cons rfl (fun K hK=>?_) AllReadyH.nil
 go_simp
 refine(CG _).mono ?_
 rintro e w5 ⟨rfl,hk5⟩
 have hB5:Below W.heap.size W w5:=below_next hB4 hk5 (Nat.le_refl _)
 go_wp2_with fail
 refine hK.out _ _ (fun b hb _=>hB5.block b (by omega)) (fun hH=>?_)
 clear hK K
 try simp only[Act.put,List.setIfInBounds_toArray,List.set_cons_zero,List.set_cons_succ]
 refine wpAnyH_ready (rs:=[15]) (by kernel_rfl) (by simp) ?_
 refine AllReadyH.cons rfl (fun K hK=>?_) AllReadyH.nil
 rw[if_pos (by rfl)]
 refine wp_store_row 68 _ _ rfl _ _ rfl rfl 68 (ccs 0 0 0 0 0 0 0 0 0 false 0) (below_row_at hB5 (by omega) R38.out) (size_commit.trans (congrArg some hC.out.1.symm)) hC.out.1.symm hC.out.2 ?_
 refine hK.out _ _ (fun b hb hn=>(setRow_other _ _ _ _ hn).trans (hB5.block b (by omega))) (fun hH=>?_)
 clear hK K
 refine wpAnyH_done (by kernel_rfl) ?_ _
 go_wp2_with fail
 exact bodyPost_ret (v:=.agg C) (results_cell_row Tryz.results90 _ _ _ 68 _ (0,0) _ rfl (setRow_heap _ _ _ _ _ _ (below_row_at hB5 (by omega) R38.out)) Tryz.underlying68 rfl (size_commit.trans (congrArg some hC.out.1.symm))) rfl ⟨rfl,below_row (hb.trans (hB5.mono (by omega))) (by omega) _⟩
abbrev cC (c:Cm):Array Value:=ccs c.pc c.next c.st c.ca c.rd c.val c.pl c.many c.data c.out c.told
abbrev cvC (c:Cm):Value:=.agg (cC c)
abbrev ivI (i:In):Value:=iv i.op i.rd i.s1 i.s2 i.im
structure InOk (i:In):Prop where
 lr:i.rd<32
 l1:i.s1<32
 l2:i.s2<32
 i0:-2147483648≤i.im
 i1:i.im≤2147483647
 o0:1≤i.op
 o1:i.op≤48
theorem cC_ok (c:Cm):(cC c).size=11∧Ones (cC c):=⟨rfl,ones_ccs _ _ _ _ _ _ _ _ _ _ _⟩
structure Bys (w:World) (p:Option Addr) (n c:Nat) (f:Nat→Int):Prop where
 hn:n≤4096
 hnc:n≤c
 hm:Mem w p n f
 hf:∀i,i<n→0≤f i∧f i≤255
theorem Bys.below {w w':World} {p:Option Addr} {n c:Nat} {f:Nat→Int} (h:Bys w p n c f) (hb:Below w.heap.size w w'):Bys w' p n c f:=⟨h.hn,h.hnc,h.hm.below hb,h.hf⟩
theorem pLoad_yes {w:World} {p:Option Addr} {n c:Nat} {f:Nat→Int} (o:Bys w p n c f) (op:Int) (a:Nat) (a1:(a:Int)≤4294967295) (ho:0<ldn op∧(a:Int)%ldn op=0∧(a:Int)+ldn op≤n):
  ∀W,Below w.heap.size w W→Calls Tryz.prog 98 #[.slice p n c,.int .i64 op,.int .u32 a] W fun e w'=>e=.returned (.tuple #[.int .u32 (ldv op (fun i=>f (a+i))),.bool true])∧w'=W:=by
 have hn:=o.hn
 obtain⟨m,hm⟩:=Int.eq_ofNat_of_zero_le (show 0≤ldn op by omega)
 have ho':=ho
 rw[hm]at ho'
 obtain⟨g,q,hp,hc⟩:=o.hm (by omega)
 have hf:∀i,i<m→0≤f (a+i)∧f (a+i)≤255:=fun i hi=>o.hf _ (by omega)
 intro W hW
 subst hp
 exact Load_any g q n c op a m _ hm (by omega) (by omega) (by omega) (by omega) (by omega) o.hnc W hf (Lies.part (hc.below hW) a m (by omega))
theorem pLoad_no {w:World} {p:Option Addr} {n c:Nat} {f:Nat→Int} (o:Bys w p n c f) (op:Int) (a:Nat) (a1:(a:Int)≤4294967295) (ho:¬(0<ldn op∧(a:Int)%ldn op=0∧(a:Int)+ldn op≤n)):
  ∀W,Below w.heap.size w W→Calls Tryz.prog 98 #[.slice p n c,.int .i64 op,.int .u32 a] W fun e w'=>e=.returned (.tuple #[.int .u32 0,.bool false])∧w'=W:=by
 have hn:=o.hn
 exact fun W _=>Load_no p n c op a (by omega) (by omega) (by omega) ho W
theorem pStores_yes {w:World} {p:Option Addr} {n c:Nat} {f:Nat→Int} (o:Bys w p n c f) (op:Int) (a K:Nat) (hK:stn op=(K:Int)) (a1:(a:Int)≤4294967295) (ho:0<stn op∧(a:Int)%stn op=0∧(a:Int)+stn op≤n):
  ∀W,Calls Tryz.prog 111 #[.slice p n c,.int .i64 op,.int .u32 a] W fun e w'=>e=.returned (.int .u32 K)∧w'=W:=fun W=>by
 have hn:=o.hn
 have h:=Stores_yes p n c op a (by omega) (by omega) (by omega) ho W
 rw[hK]at h
 exact h
theorem pStores_no {w:World} {p:Option Addr} {n c:Nat} {f:Nat→Int} (o:Bys w p n c f) (op:Int) (a:Nat) (a1:(a:Int)≤4294967295) (ho:¬(0<stn op∧(a:Int)%stn op=0∧(a:Int)+stn op≤n)):
  ∀W,Calls Tryz.prog 111 #[.slice p n c,.int .i64 op,.int .u32 a] W fun e w'=>e=.returned (.int .u32 0)∧w'=W:=fun W=>by
 have hn:=o.hn
 exact Stores_no p n c op a (by omega) (by omega) (by omega) ho W
theorem fits_iff {n:Nat} {x m:Int}:fits n x m=true↔0≤x∧x%m=0∧x+m≤n:=by unfold fits;simp
theorem hgive_any (pc nx v:Int) (rd:Nat) (W:World):
  Calls Tryz.prog 129 #[cv pc nx 0 0 0 0 0 0 0 false 0,.int .i64 rd,.int .u32 v] W fun e w'=>e=.returned (cv pc nx 0 0 rd (if rd=0 then 0 else v) 0 0 0 false 0)∧Below W.heap.size W w':=by
 by_cases h:rd=0
 ·subst h
  exact hgive_no pc nx v W
 ·rw[if_neg h]
  exact hgive_yes pc nx v rd (by simp;omega) W
theorem hDo_load11 (rd s1 s2:Nat) (I pc a b:Int) (p0:0≤pc) (p1:pc≤4294967295) (a0:0≤a) (a1:a≤4294967295) (w:World) {p:Option Addr} {n c:Nat} {f:Nat→Int} (o:Bys w p n c f):
  Calls Tryz.prog 90 #[iv 11 rd s1 s2 I,.int .u32 pc,.int .u32 a,.int .u32 b,.slice p n c] w fun e w'=>e=.returned (cvC (loadC n f ⟨11,rd,s1,s2,I⟩ pc a))∧Below w.heap.size w w':=by
 obtain⟨q,hq⟩:=Int.eq_ofNat_of_zero_le (show 0≤(a+I)%4294967296 by omega)
 have hpl:place ⟨11,rd,s1,s2,I⟩ a=(q:Int):=hq
 have q1:(q:Int)≤4294967295:=by omega
 by_cases ho:0<ldn 11∧(q:Int)%ldn 11=0∧(q:Int)+ldn 11≤n
 ·have CM:=pLoad_yes o 11 q q1 ho
  rw[←hq]at CM
  have e:loadC n f ⟨11,rd,s1,s2,I⟩ pc a=onC pc rd (ldv 11 (fun i=>f (q+i))):=by
   unfold loadC
   rw[hpl,if_pos (fits_iff.2 ⟨by omega,ho.2⟩)]
   rfl
  rw[e]
  exact hdLoad11 pc p n c w I a b _ true rd s1 s2 _ (cC_ok _) CM (fun W=>hLoaded_yes 11 I pc _ _ rd s1 s2 W (fun W=>honward_any pc p0 p1 W) _ _ (fun W=>hgive_any pc _ _ rd W)) a0 a1
 ·have CM:=pLoad_no o 11 q q1 ho
  rw[←hq]at CM
  have e:loadC n f ⟨11,rd,s1,s2,I⟩ pc a=trapC pc 3:=by
   unfold loadC
   rw[hpl,if_neg (fun h=>ho ⟨by decide,(fits_iff.1 h).2⟩)]
  rw[e]
  exact hdLoad11 pc p n c w I a b _ false rd s1 s2 _ (cC_ok _) CM (fun W=>hLoaded_no 11 rd s1 s2 I pc _ W) a0 a1
theorem hDo_load12 (rd s1 s2:Nat) (I pc a b:Int) (p0:0≤pc) (p1:pc≤4294967295) (a0:0≤a) (a1:a≤4294967295) (w:World) {p:Option Addr} {n c:Nat} {f:Nat→Int} (o:Bys w p n c f):
  Calls Tryz.prog 90 #[iv 12 rd s1 s2 I,.int .u32 pc,.int .u32 a,.int .u32 b,.slice p n c] w fun e w'=>e=.returned (cvC (loadC n f ⟨12,rd,s1,s2,I⟩ pc a))∧Below w.heap.size w w':=by
 obtain⟨q,hq⟩:=Int.eq_ofNat_of_zero_le (show 0≤(a+I)%4294967296 by omega)
 have hpl:place ⟨12,rd,s1,s2,I⟩ a=(q:Int):=hq
 have q1:(q:Int)≤4294967295:=by omega
 by_cases ho:0<ldn 12∧(q:Int)%ldn 12=0∧(q:Int)+ldn 12≤n
 ·have CM:=pLoad_yes o 12 q q1 ho
  rw[←hq]at CM
  have e:loadC n f ⟨12,rd,s1,s2,I⟩ pc a=onC pc rd (ldv 12 (fun i=>f (q+i))):=by
   unfold loadC
   rw[hpl,if_pos (fits_iff.2 ⟨by omega,ho.2⟩)]
   rfl
  rw[e]
  exact hdLoad12 pc p n c w I a b _ true rd s1 s2 _ (cC_ok _) CM (fun W=>hLoaded_yes 12 I pc _ _ rd s1 s2 W (fun W=>honward_any pc p0 p1 W) _ _ (fun W=>hgive_any pc _ _ rd W)) a0 a1
 ·have CM:=pLoad_no o 12 q q1 ho
  rw[←hq]at CM
  have e:loadC n f ⟨12,rd,s1,s2,I⟩ pc a=trapC pc 3:=by
   unfold loadC
   rw[hpl,if_neg (fun h=>ho ⟨by decide,(fits_iff.1 h).2⟩)]
  rw[e]
  exact hdLoad12 pc p n c w I a b _ false rd s1 s2 _ (cC_ok _) CM (fun W=>hLoaded_no 12 rd s1 s2 I pc _ W) a0 a1
theorem hDo_load13 (rd s1 s2:Nat) (I pc a b:Int) (p0:0≤pc) (p1:pc≤4294967295) (a0:0≤a) (a1:a≤4294967295) (w:World) {p:Option Addr} {n c:Nat} {f:Nat→Int} (o:Bys w p n c f):
  Calls Tryz.prog 90 #[iv 13 rd s1 s2 I,.int .u32 pc,.int .u32 a,.int .u32 b,.slice p n c] w fun e w'=>e=.returned (cvC (loadC n f ⟨13,rd,s1,s2,I⟩ pc a))∧Below w.heap.size w w':=by
 obtain⟨q,hq⟩:=Int.eq_ofNat_of_zero_le (show 0≤(a+I)%4294967296 by omega)
 have hpl:place ⟨13,rd,s1,s2,I⟩ a=(q:Int):=hq
 have q1:(q:Int)≤4294967295:=by omega
 by_cases ho:0<ldn 13∧(q:Int)%ldn 13=0∧(q:Int)+ldn 13≤n
 ·have CM:=pLoad_yes o 13 q q1 ho
  rw[←hq]at CM
  have e:loadC n f ⟨13,rd,s1,s2,I⟩ pc a=onC pc rd (ldv 13 (fun i=>f (q+i))):=by
   unfold loadC
   rw[hpl,if_pos (fits_iff.2 ⟨by omega,ho.2⟩)]
   rfl
  rw[e]
  exact hdLoad13 pc p n c w I a b _ true rd s1 s2 _ (cC_ok _) CM (fun W=>hLoaded_yes 13 I pc _ _ rd s1 s2 W (fun W=>honward_any pc p0 p1 W) _ _ (fun W=>hgive_any pc _ _ rd W)) a0 a1
 ·have CM:=pLoad_no o 13 q q1 ho
  rw[←hq]at CM
  have e:loadC n f ⟨13,rd,s1,s2,I⟩ pc a=trapC pc 3:=by
   unfold loadC
   rw[hpl,if_neg (fun h=>ho ⟨by decide,(fits_iff.1 h).2⟩)]
  rw[e]
  exact hdLoad13 pc p n c w I a b _ false rd s1 s2 _ (cC_ok _) CM (fun W=>hLoaded_no 13 rd s1 s2 I pc _ W) a0 a1
theorem hDo_load14 (rd s1 s2:Nat) (I pc a b:Int) (p0:0≤pc) (p1:pc≤4294967295) (a0:0≤a) (a1:a≤4294967295) (w:World) {p:Option Addr} {n c:Nat} {f:Nat→Int} (o:Bys w p n c f):
  Calls Tryz.prog 90 #[iv 14 rd s1 s2 I,.int .u32 pc,.int .u32 a,.int .u32 b,.slice p n c] w fun e w'=>e=.returned (cvC (loadC n f ⟨14,rd,s1,s2,I⟩ pc a))∧Below w.heap.size w w':=by
 obtain⟨q,hq⟩:=Int.eq_ofNat_of_zero_le (show 0≤(a+I)%4294967296 by omega)
 have hpl:place ⟨14,rd,s1,s2,I⟩ a=(q:Int):=hq
 have q1:(q:Int)≤4294967295:=by omega
 by_cases ho:0<ldn 14∧(q:Int)%ldn 14=0∧(q:Int)+ldn 14≤n
 ·have CM:=pLoad_yes o 14 q q1 ho
  rw[←hq]at CM
  have e:loadC n f ⟨14,rd,s1,s2,I⟩ pc a=onC pc rd (ldv 14 (fun i=>f (q+i))):=by
   unfold loadC
   rw[hpl,if_pos (fits_iff.2 ⟨by omega,ho.2⟩)]
   rfl
  rw[e]
  exact hdLoad14 pc p n c w I a b _ true rd s1 s2 _ (cC_ok _) CM (fun W=>hLoaded_yes 14 I pc _ _ rd s1 s2 W (fun W=>honward_any pc p0 p1 W) _ _ (fun W=>hgive_any pc _ _ rd W)) a0 a1
 ·have CM:=pLoad_no o 14 q q1 ho
  rw[←hq]at CM
  have e:loadC n f ⟨14,rd,s1,s2,I⟩ pc a=trapC pc 3:=by
   unfold loadC
   rw[hpl,if_neg (fun h=>ho ⟨by decide,(fits_iff.1 h).2⟩)]
  rw[e]
  exact hdLoad14 pc p n c w I a b _ false rd s1 s2 _ (cC_ok _) CM (fun W=>hLoaded_no 14 rd s1 s2 I pc _ W) a0 a1
theorem hDo_load15 (rd s1 s2:Nat) (I pc a b:Int) (p0:0≤pc) (p1:pc≤4294967295) (a0:0≤a) (a1:a≤4294967295) (w:World) {p:Option Addr} {n c:Nat} {f:Nat→Int} (o:Bys w p n c f):
  Calls Tryz.prog 90 #[iv 15 rd s1 s2 I,.int .u32 pc,.int .u32 a,.int .u32 b,.slice p n c] w fun e w'=>e=.returned (cvC (loadC n f ⟨15,rd,s1,s2,I⟩ pc a))∧Below w.heap.size w w':=by
 obtain⟨q,hq⟩:=Int.eq_ofNat_of_zero_le (show 0≤(a+I)%4294967296 by omega)
 have hpl:place ⟨15,rd,s1,s2,I⟩ a=(q:Int):=hq
 have q1:(q:Int)≤4294967295:=by omega
 by_cases ho:0<ldn 15∧(q:Int)%ldn 15=0∧(q:Int)+ldn 15≤n
 ·have CM:=pLoad_yes o 15 q q1 ho
  rw[←hq]at CM
  have e:loadC n f ⟨15,rd,s1,s2,I⟩ pc a=onC pc rd (ldv 15 (fun i=>f (q+i))):=by
   unfold loadC
   rw[hpl,if_pos (fits_iff.2 ⟨by omega,ho.2⟩)]
   rfl
  rw[e]
  exact hdLoad15 pc p n c w I a b _ true rd s1 s2 _ (cC_ok _) CM (fun W=>hLoaded_yes 15 I pc _ _ rd s1 s2 W (fun W=>honward_any pc p0 p1 W) _ _ (fun W=>hgive_any pc _ _ rd W)) a0 a1
 ·have CM:=pLoad_no o 15 q q1 ho
  rw[←hq]at CM
  have e:loadC n f ⟨15,rd,s1,s2,I⟩ pc a=trapC pc 3:=by
   unfold loadC
   rw[hpl,if_neg (fun h=>ho ⟨by decide,(fits_iff.1 h).2⟩)]
  rw[e]
  exact hdLoad15 pc p n c w I a b _ false rd s1 s2 _ (cC_ok _) CM (fun W=>hLoaded_no 15 rd s1 s2 I pc _ W) a0 a1
theorem hDo_store16 (rd s1 s2:Nat) (I pc a b:Int) (p0:0≤pc) (p1:pc≤4294967295) (a0:0≤a) (a1:a≤4294967295) (b0:0≤b) (b1:b≤4294967295) (w:World) {p:Option Addr} {n c:Nat} {f:Nat→Int} (o:Bys w p n c f):
  Calls Tryz.prog 90 #[iv 16 rd s1 s2 I,.int .u32 pc,.int .u32 a,.int .u32 b,.slice p n c] w fun e w'=>e=.returned (cvC (doW ⟨16,rd,s1,s2,I⟩ pc a b n))∧Below w.heap.size w w':=by
 obtain⟨q,hq⟩:=Int.eq_ofNat_of_zero_le (show 0≤(a+I)%4294967296 by omega)
 have hpl:place ⟨16,rd,s1,s2,I⟩ a=(q:Int):=hq
 have q1:(q:Int)≤4294967295:=by omega
 have hs:sts ⟨16,rd,s1,s2,I⟩=true:=rfl
 by_cases ho:0<stn 16∧(q:Int)%stn 16=0∧(q:Int)+stn 16≤n
 ·have CM:=pStores_yes o 16 q 1 rfl q1 ho
  rw[←hq]at CM
  have e:doW ⟨16,rd,s1,s2,I⟩ pc a b n=⟨pc,(pc+4)%4294967296,0,0,0,0,(a+I)%4294967296,1,b%p256 1,false,0⟩:=by
   unfold doW
   rw[if_pos hs,if_pos (fits_iff.2 (by rw[hpl];exact⟨by omega,ho.2⟩))]
   rfl
  rw[e]
  exact hdStore16 pc p n c w I a b rd s1 s2 _ (cC_ok _) (fun W hW=>hstore_yes 16 rd s1 s2 I pc a b _ _ 1 (by omega) p n c a0 a1 W CM (fun W=>honward_any pc p0 p1 W) (fun W=>lowest_any b 1 (by omega) b0 b1 W))
 ·have CM:=pStores_no o 16 q q1 ho
  rw[←hq]at CM
  have e:doW ⟨16,rd,s1,s2,I⟩ pc a b n=trapC pc 4:=by
   unfold doW
   rw[if_pos hs,if_neg (fun h=>ho (by rw[hpl]at h;exact⟨by decide,(fits_iff.1 h).2⟩))]
  rw[e]
  exact hdStore16 pc p n c w I a b rd s1 s2 _ (cC_ok _) (fun W hW=>hstore_no 16 rd s1 s2 I pc a b p n c a0 a1 W CM)
theorem hDo_store17 (rd s1 s2:Nat) (I pc a b:Int) (p0:0≤pc) (p1:pc≤4294967295) (a0:0≤a) (a1:a≤4294967295) (b0:0≤b) (b1:b≤4294967295) (w:World) {p:Option Addr} {n c:Nat} {f:Nat→Int} (o:Bys w p n c f):
  Calls Tryz.prog 90 #[iv 17 rd s1 s2 I,.int .u32 pc,.int .u32 a,.int .u32 b,.slice p n c] w fun e w'=>e=.returned (cvC (doW ⟨17,rd,s1,s2,I⟩ pc a b n))∧Below w.heap.size w w':=by
 obtain⟨q,hq⟩:=Int.eq_ofNat_of_zero_le (show 0≤(a+I)%4294967296 by omega)
 have hpl:place ⟨17,rd,s1,s2,I⟩ a=(q:Int):=hq
 have q1:(q:Int)≤4294967295:=by omega
 have hs:sts ⟨17,rd,s1,s2,I⟩=true:=rfl
 by_cases ho:0<stn 17∧(q:Int)%stn 17=0∧(q:Int)+stn 17≤n
 ·have CM:=pStores_yes o 17 q 2 rfl q1 ho
  rw[←hq]at CM
  have e:doW ⟨17,rd,s1,s2,I⟩ pc a b n=⟨pc,(pc+4)%4294967296,0,0,0,0,(a+I)%4294967296,2,b%p256 2,false,0⟩:=by
   unfold doW
   rw[if_pos hs,if_pos (fits_iff.2 (by rw[hpl];exact⟨by omega,ho.2⟩))]
   rfl
  rw[e]
  exact hdStore17 pc p n c w I a b rd s1 s2 _ (cC_ok _) (fun W hW=>hstore_yes 17 rd s1 s2 I pc a b _ _ 2 (by omega) p n c a0 a1 W CM (fun W=>honward_any pc p0 p1 W) (fun W=>lowest_any b 2 (by omega) b0 b1 W))
 ·have CM:=pStores_no o 17 q q1 ho
  rw[←hq]at CM
  have e:doW ⟨17,rd,s1,s2,I⟩ pc a b n=trapC pc 4:=by
   unfold doW
   rw[if_pos hs,if_neg (fun h=>ho (by rw[hpl]at h;exact⟨by decide,(fits_iff.1 h).2⟩))]
  rw[e]
  exact hdStore17 pc p n c w I a b rd s1 s2 _ (cC_ok _) (fun W hW=>hstore_no 17 rd s1 s2 I pc a b p n c a0 a1 W CM)
theorem hDo_store18 (rd s1 s2:Nat) (I pc a b:Int) (p0:0≤pc) (p1:pc≤4294967295) (a0:0≤a) (a1:a≤4294967295) (b0:0≤b) (b1:b≤4294967295) (w:World) {p:Option Addr} {n c:Nat} {f:Nat→Int} (o:Bys w p n c f):
  Calls Tryz.prog 90 #[iv 18 rd s1 s2 I,.int .u32 pc,.int .u32 a,.int .u32 b,.slice p n c] w fun e w'=>e=.returned (cvC (doW ⟨18,rd,s1,s2,I⟩ pc a b n))∧Below w.heap.size w w':=by
 obtain⟨q,hq⟩:=Int.eq_ofNat_of_zero_le (show 0≤(a+I)%4294967296 by omega)
 have hpl:place ⟨18,rd,s1,s2,I⟩ a=(q:Int):=hq
 have q1:(q:Int)≤4294967295:=by omega
 have hs:sts ⟨18,rd,s1,s2,I⟩=true:=rfl
 by_cases ho:0<stn 18∧(q:Int)%stn 18=0∧(q:Int)+stn 18≤n
 ·have CM:=pStores_yes o 18 q 4 rfl q1 ho
  rw[←hq]at CM
  have e:doW ⟨18,rd,s1,s2,I⟩ pc a b n=⟨pc,(pc+4)%4294967296,0,0,0,0,(a+I)%4294967296,4,b%p256 4,false,0⟩:=by
   unfold doW
   rw[if_pos hs,if_pos (fits_iff.2 (by rw[hpl];exact⟨by omega,ho.2⟩))]
   rfl
  rw[e]
  exact hdStore18 pc p n c w I a b rd s1 s2 _ (cC_ok _) (fun W hW=>hstore_yes 18 rd s1 s2 I pc a b _ _ 4 (by omega) p n c a0 a1 W CM (fun W=>honward_any pc p0 p1 W) (fun W=>lowest_any b 4 (by omega) b0 b1 W))
 ·have CM:=pStores_no o 18 q q1 ho
  rw[←hq]at CM
  have e:doW ⟨18,rd,s1,s2,I⟩ pc a b n=trapC pc 4:=by
   unfold doW
   rw[if_pos hs,if_neg (fun h=>ho (by rw[hpl]at h;exact⟨by decide,(fits_iff.1 h).2⟩))]
  rw[e]
  exact hdStore18 pc p n c w I a b rd s1 s2 _ (cC_ok _) (fun W hW=>hstore_no 18 rd s1 s2 I pc a b p n c a0 a1 W CM)
theorem itab_imm:∀m,m<28→19≤m→itab.getD m 0=opn m:=by decide
theorem itab_oth:∀m,m<46→5≤m→¬(19≤m∧m≤27)→itab.getD m 0=0:=by decide
theorem opn_nz:∀m:Nat,m<28→19≤m→(opn m != 0)=true:=by decide
theorem hnext_any (i:In) (h1:1≤i.op) (h2:i.op<46) (pc a b:Int) (p0:0≤pc) (p1:pc≤4294967295) (a0:0≤a) (a1:a≤4294967295) (b0:0≤b) (b1:b≤4294967295) (W:World):
  Calls Tryz.prog 133 #[ivI i,.int .u32 pc,.int .u32 a,.int .u32 b] W fun e w'=>e=.returned (.int .u32 (nxW i pc a b))∧Below W.heap.size W w':=by
 obtain⟨op,rd,s1,s2,I⟩:=i
 have HB:=fun W=>Holds_any op a b a0 a1 b0 b1 W
 unfold nxW
 simp only[]at h1 h2⊢
 by_cases e3:op=3
 ·subst e3
  rw[if_pos rfl]
  exact hnext_jal rd s1 s2 I pc a b p0 p1 W
 ·rw[if_neg e3]
  by_cases e4:op=4
  ·subst e4
   rw[if_pos rfl]
   exact hnext_jalr rd s1 s2 I pc a b p0 p1 a0 a1 (fun W=>by have h:=HB W;rwa [holds_none _ _ _ (by omega) (by omega) (by omega) (by omega) (by omega) (by omega)]at h) W
  ·rw[if_neg e4]
   cases hb:holds op a b with
   |true=>
    rw[hb]at HB
    rw[if_pos rfl]
    exact hnext_go op rd s1 s2 I pc a b p0 p1 (beq_eq_false_iff_ne.2 e3) HB W
   |false=>
    rw[hb]at HB
    rw[if_neg (by decide)]
    exact hnext_on op rd s1 s2 I pc a b p0 p1 (beq_eq_false_iff_ne.2 e3) (beq_eq_false_iff_ne.2 e4) HB W
theorem hreckon_any (i:In) (h1:1≤i.op) (h2:i.op<46) (pc a b:Int) (p0:0≤pc) (p1:pc≤4294967295) (a0:0≤a) (a1:a≤4294967295) (b0:0≤b) (b1:b≤4294967295) (W:World) (hT2:Tab2 W):
  Calls Tryz.prog 134 #[ivI i,.int .u32 pc,.int .u32 a,.int .u32 b] W fun e w'=>e=.returned (.int .u32 (rkW i pc a b))∧Below W.heap.size W w':=by
 obtain⟨op,rd,s1,s2,I⟩:=i
 unfold rkW
 simp only[]at h1 h2⊢
 by_cases e1:op=1
 ·subst e1;rw[if_pos rfl];exact hreckon_lui rd s1 s2 I pc a b W
 ·rw[if_neg e1]
  by_cases e2:op=2
  ·subst e2;rw[if_pos rfl];exact hreckon_auipc rd s1 s2 I pc a b p0 p1 W
  ·rw[if_neg e2]
   by_cases e3:op=3
   ·subst e3;rw[if_pos (.inl rfl)];exact hreckon_jal rd s1 s2 I pc a b p0 p1 W
   ·by_cases e4:op=4
    ·subst e4;rw[if_pos (.inr rfl)];exact hreckon_jalr rd s1 s2 I pc a b p0 p1 W
    ·rw[if_neg (by omega)]
     obtain⟨m,hm⟩:=Int.eq_ofNat_of_zero_le (show 0≤op by omega)
     subst hm
     by_cases e5:19≤(m:Int)∧(m:Int)≤27
     ·rw[if_pos e5]
      exact hreckon_imm m rd s1 s2 I pc a b (opn m) _ (by omega) (by omega) (itab_imm m (by omega) (by omega)) (opn_nz m (by omega) (by omega)) (fun W=>Alu_any (opn m) a (I%4294967296) a0 a1 (by omega) (by omega) W) W hT2
     ·rw[if_neg e5]
      exact hreckon_reg m rd s1 s2 I pc a b _ (by omega) (by omega) (itab_oth m (by omega) (by omega) (by omega)) (fun W=>Alu_any m a b a0 a1 b0 b1 W) W hT2
theorem hDo_any (i:In) (hi:InOk i) (pc a b:Int) (p0:0≤pc) (p1:pc≤4294967295) (a0:0≤a) (a1:a≤4294967295) (b0:0≤b) (b1:b≤4294967295) (w:World) {p:Option Addr} {n c:Nat} {f:Nat→Int} (o:Bys w p n c f) (hT2:Tab2 w):
  Calls Tryz.prog 90 #[ivI i,.int .u32 pc,.int .u32 a,.int .u32 b,.slice p n c] w fun e w'=>e=.returned (cvC (allW n f i pc a b))∧Below w.heap.size w w':=by
 obtain⟨op,rd,s1,s2,I⟩:=i
 have o0:1≤op:=hi.o0
 have o1:op≤48:=hi.o1
 by_cases hl:11≤op∧op≤15
 ·have e:allW n f ⟨op,rd,s1,s2,I⟩ pc a b=loadC n f ⟨op,rd,s1,s2,I⟩ pc a:=by
   unfold allW
   refine if_pos ?_
   show ldn op≠0
   rcases(by omega:op=11∨op=12∨op=13∨op=14∨op=15)with rfl|rfl|rfl|rfl|rfl<;>decide
  rw[e]
  rcases(by omega:op=11∨op=12∨op=13∨op=14∨op=15)with rfl|rfl|rfl|rfl|rfl
  ·exact hDo_load11 rd s1 s2 I pc a b p0 p1 a0 a1 w o
  ·exact hDo_load12 rd s1 s2 I pc a b p0 p1 a0 a1 w o
  ·exact hDo_load13 rd s1 s2 I pc a b p0 p1 a0 a1 w o
  ·exact hDo_load14 rd s1 s2 I pc a b p0 p1 a0 a1 w o
  ·exact hDo_load15 rd s1 s2 I pc a b p0 p1 a0 a1 w o
 ·have e:allW n f ⟨op,rd,s1,s2,I⟩ pc a b=doW ⟨op,rd,s1,s2,I⟩ pc a b n:=by
   unfold allW
   refine if_neg ?_
   show¬(ldn op≠0)
   unfold ldn
   rw[if_neg (by omega),if_neg (by omega),if_neg (by omega)]
   exact fun h=>h rfl
  rw[e]
  by_cases hs:16≤op∧op≤18
  ·rcases(by omega:op=16∨op=17∨op=18)with rfl|rfl|rfl
   ·exact hDo_store16 rd s1 s2 I pc a b p0 p1 a0 a1 b0 b1 w o
   ·exact hDo_store17 rd s1 s2 I pc a b p0 p1 a0 a1 b0 b1 w o
   ·exact hDo_store18 rd s1 s2 I pc a b p0 p1 a0 a1 b0 b1 w o
  ·have hs':¬sts ⟨op,rd,s1,s2,I⟩=true:=by unfold sts;simpa using hs
   unfold doW
   rw[if_neg hs']
   by_cases e46:op=46
   ·subst e46
    rw[if_pos rfl]
    exact hdFence pc p n c w I a b rd s1 s2 _ (cC_ok _) (fun W _=>honward_any pc p0 p1 W)
   ·rw[if_neg e46]
    by_cases e47:op=47
    ·subst e47
     rw[if_pos rfl]
     by_cases z0:a=0
     ·subst z0
      rw[if_pos rfl]
      exact hdCall pc p n c w I 0 b rd s1 s2 _ (cC_ok _) (fun W _=>hcall_0 pc b W)
     ·rw[if_neg z0]
      by_cases z1:a=1
      ·subst z1
       rw[if_pos rfl]
       exact hdCall pc p n c w I 1 b rd s1 s2 _ (cC_ok _) (fun W _=>hcall_1 pc b _ W (fun W=>honward_any pc p0 p1 W))
      ·rw[if_neg z1]
       exact hdCall pc p n c w I a b rd s1 s2 _ (cC_ok _) (fun W _=>hcall_x pc a b (beq_eq_false_iff_ne.2 z0) (beq_eq_false_iff_ne.2 z1) W)
    ·rw[if_neg e47]
     by_cases e48:op=48
     ·subst e48
      rw[if_pos rfl]
      exact hdBreak pc p n c w I a b rd s1 s2 _ (cC_ok _) (fun W _=>htrap_any pc 6 W)
     ·rw[if_neg e48]
      exact hdRest pc p n c w I a b op _ _ rd s1 s2 _ (cC_ok _) o0 (by omega) (by omega) (fun W hW=>hnext_any ⟨op,rd,s1,s2,I⟩ o0 (by show op<46;omega) pc a b p0 p1 a0 a1 b0 b1 W) (fun W hW=>hreckon_any ⟨op,rd,s1,s2,I⟩ o0 (by show op<46;omega) pc a b p0 p1 a0 a1 b0 b1 W (hT2.below hW hT2.size)) (fun W=>hgive_any pc _ _ rd W)
theorem hReads_any (i:In) (w:World):
  Calls Tryz.prog 100 #[ivI i] w fun e w'=>e=.returned (.tuple #[.int .i64 (ra i),.int .i64 (rb i)])∧Below w.heap.size w w':=by
 obtain⟨op,rd,s1,s2,I⟩:=i
 unfold ra rb
 simp only[]
 by_cases h:op=47
 ·subst h
  go_enter Tryz.func100,Tryz.ntmps100
  go_wp2
  go_ret2
  exact⟨rfl,(Below.refl _ _).alloc (Nat.le_refl _) _⟩
 ·have hq:(op==47)=false:=beq_eq_false_iff_ne.2 h
  rw[if_neg h,if_neg h]
  go_enter Tryz.func100,Tryz.ntmps100
  go_wp2
  go_region
  go_wp2
  go_ret2
  exact⟨rfl,((Below.refl _ _).alloc (Nat.le_refl _) _).drew⟩
end Go.Proofs.YtpiohehijkpghacGreatDoor
