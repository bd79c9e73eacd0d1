/- What Encode answers of an instruction. -/
import Derived.Deep.Cut
import Derived.Deep.WholeRow
import Derived.Deep.DeepCutAuto
import Derived.Deep.DeepMust
import Derived.OpenShut
import Derived.Test.YtpiohehijkpghabGreatDoorG12
import Derived.Test.YtpiohehijkpghabGreatDoorG11
import Derived.Test.YtpiohehijkpghabGreatDoorG01
set_option maxRecDepth 100000
set_option maxHeartbeats 4000000
namespace Go.Proofs.YtpiohehijkpghabGreatDoor
open Go.RowKit
open Hy
set_option linter.unusedVariables false
set_option linter.unusedSimpArgs false
theorem heap3_old (w:World) (A B C:Obj):(((w.alloc A).alloc B).alloc C).drew.heap[w.heap.size]?=some A:=
 (Below.heap_alloc _ _ _ (by simp;omega)).trans (heap_alloc2_old _ _ _)
theorem heap3_new (w:World) (A B C:Obj):(((w.alloc A).alloc B).alloc C).drew.heap[w.heap.size+1+1]?=some C:=by
 have h:=heap_alloc_new ((w.alloc A).alloc B) C
 rw[show((w.alloc A).alloc B).heap.size=w.heap.size+1+1 by simp]at h
 exact h
theorem hbehind_0 (H:Array Value) (pc next st ca v at_ many data told:Int) (out:Bool) (hH:H.size=35) (hO:Ones H) (h32:∃z,H[32]?=some (.int .u32 z)) (h33:∃z,H[33]?=some (.int .i64 z)) (h34:∃z,H[34]?=some (.int .i64 z)) (w:World):
  Calls Tryz.prog 62 #[.agg H,cv pc next st ca 0 v at_ many data out told] w fun e w'=>e=.returned (.agg (((H.setIfInBounds 32 (.int .u32 next)).setIfInBounds 33 (.int .i64 st)).setIfInBounds 34 (.int .i64 ca)))∧Below w.heap.size w w':=by
 obtain⟨z2,h32⟩:=h32
 obtain⟨z3,h33⟩:=h33
 obtain⟨z4,h34⟩:=h34
 have HI:Hid ((Tryz.prog.info? 27).map (·.size)=some (((H.setIfInBounds 32 (.int .u32 next)).setIfInBounds 33 (.int .i64 st)).setIfInBounds 34 (.int .i64 ca)).size):=by show _=_;rw[size_hart];simp[hH]
 have HZ:Hid (35=(((H.setIfInBounds 32 (.int .u32 next)).setIfInBounds 33 (.int .i64 st)).setIfInBounds 34 (.int .i64 ca)).size):=by show _=_;simp[hH]
 have HN:Hid (Ones (((H.setIfInBounds 32 (.int .u32 next)).setIfInBounds 33 (.int .i64 st)).setIfInBounds 34 (.int .i64 ca))):=by
  show Ones _
  repeat refine Ones.set ?_ _ _ (by simp[Value.oneCell'])
  exact hO
 clear hH hO
 go_enter Tryz.func62,Tryz.ntmps62
 go_wp2_with fail
 go_region
 go_upto_region 4 with fail
 go_wp2_with(first|(refine wpList_load_row rfl 27 _ rfl _ rfl 27 _ (0,0) _ (heap3_old _ _ _ _) Tryz.underlying27 rfl HI.out ?_)|(refine wpList_store_row rfl 27 _ _ rfl _ _ rfl rfl 27 _ (heap3_new _ _ _ _) HI.out HZ.out HN.out ?_))
 exact bodyPost_ret (v:=.agg (((H.setIfInBounds 32 (.int .u32 next)).setIfInBounds 33 (.int .i64 st)).setIfInBounds 34 (.int .i64 ca))) (results_cell_row Tryz.results62 _ _ _ 27 _ (0,0) _ rfl (setRow_heap _ _ _ _ _ _ (heap3_new _ _ _ _)) Tryz.underlying27 rfl HI.out) rfl ⟨rfl,below_row (((((Below.refl _ _).alloc (Nat.le_refl _) _).alloc (by simp) _).alloc (by simp;omega) _).drew) (by omega) _⟩
theorem hbehind_1 (H:Array Value) (pc next st ca v at_ many data told:Int) (rd:Nat) (R0:Int) (out:Bool) (hH:H.size=35) (hO:Ones H) (h32:∃z,H[32]?=some (.int .u32 z)) (h33:∃z,H[33]?=some (.int .i64 z)) (h34:∃z,H[34]?=some (.int .i64 z)) (hR:H[rd]?=some (.int .u32 R0)) (lr:rd<32) (hz:((rd:Int) != 0)=true) (w:World):
  Calls Tryz.prog 62 #[.agg H,cv pc next st ca rd v at_ many data out told] w fun e w'=>e=.returned (.agg ((((H.setIfInBounds 32 (.int .u32 next)).setIfInBounds 33 (.int .i64 st)).setIfInBounds 34 (.int .i64 ca)).setIfInBounds rd (.int .u32 v)))∧Below w.heap.size w w':=by
 obtain⟨z2,h32⟩:=h32
 obtain⟨z3,h33⟩:=h33
 obtain⟨z4,h34⟩:=h34
 have HI:Hid ((Tryz.prog.info? 27).map (·.size)=some ((((H.setIfInBounds 32 (.int .u32 next)).setIfInBounds 33 (.int .i64 st)).setIfInBounds 34 (.int .i64 ca)).setIfInBounds rd (.int .u32 v)).size):=by show _=_;rw[size_hart];simp[hH]
 have HZ:Hid (35=((((H.setIfInBounds 32 (.int .u32 next)).setIfInBounds 33 (.int .i64 st)).setIfInBounds 34 (.int .i64 ca)).setIfInBounds rd (.int .u32 v)).size):=by show _=_;simp[hH]
 have HN:Hid (Ones ((((H.setIfInBounds 32 (.int .u32 next)).setIfInBounds 33 (.int .i64 st)).setIfInBounds 34 (.int .i64 ca)).setIfInBounds rd (.int .u32 v))):=by
  show Ones _
  repeat refine Ones.set ?_ _ _ (by simp[Value.oneCell'])
  exact hO
 clear hH hO
 have hz1:0<rd:=by simp at hz;omega
 have e32:¬32=rd:=by omega
 have e33:¬33=rd:=by omega
 have e34:¬34=rd:=by omega
 have f32:¬rd=32:=by omega
 have f33:¬rd=33:=by omega
 have f34:¬rd=34:=by omega
 go_enter Tryz.func62,Tryz.ntmps62
 go_wp2_with fail
 go_region
 go_upto_region 4 with fail
 go_wp2_with(first|(refine wpList_load_row rfl 27 _ rfl _ rfl 27 _ (0,0) _ (heap3_old _ _ _ _) Tryz.underlying27 rfl HI.out ?_)|(refine wpList_store_row rfl 27 _ _ rfl _ _ rfl rfl 27 _ (heap3_new _ _ _ _) HI.out HZ.out HN.out ?_))
 exact bodyPost_ret (v:=.agg ((((H.setIfInBounds 32 (.int .u32 next)).setIfInBounds 33 (.int .i64 st)).setIfInBounds 34 (.int .i64 ca)).setIfInBounds rd (.int .u32 v))) (results_cell_row Tryz.results62 _ _ _ 27 _ (0,0) _ rfl (setRow_heap _ _ _ _ _ _ (heap3_new _ _ _ _)) Tryz.underlying27 rfl HI.out) rfl ⟨rfl,below_row (((((Below.refl _ _).alloc (Nat.le_refl _) _).alloc (by simp) _).alloc (by simp;omega) _).drew) (by omega) _⟩
def Mem (w:World) (p:Option Addr) (n:Nat) (f:Nat→Int):Prop:=0<n→∃g o,p=some ⟨g,o,none⟩∧Lies w g o n f
theorem Mem.below {w w':World} {p:Option Addr} {n:Nat} {f:Nat→Int} (h:Mem w p n f) (hb:Below w.heap.size w w'):Mem w' p n f:=fun h0=>by
 obtain⟨g,o,rfl,hl⟩:=h h0
 exact⟨g,o,rfl,hl.below hb⟩
end Go.Proofs.YtpiohehijkpghabGreatDoor
namespace Go.Proofs.YtpiohehijkpghabGreatDoor
open Go.RowKit
open Hy
set_option linter.unusedVariables false
def pv (cs:Array Value) (j:Nat):Int:=match cs[j]? with
 |some (.int .u32 v)=>v
 |_=>0
def chk (cs:Array Value):Nat→Bool
 |0=>true
 |n+1=>(match cs[n]? with
  |some (.int .u32 _)=>true
  |_=>false)&&chk cs n
theorem chk_at (cs:Array Value):∀n,chk cs n=true→∀j,j<n→cs[j]?=some (.int .u32 (pv cs j))
 |0,_,j,h=>by omega
 |n+1,hk,j,h=>by
  simp only[chk,Bool.and_eq_true]at hk
  by_cases e:j=n
  ·subst e
   have h1:=hk.1
   unfold pv
   split at h1
   ·rename_i v hv;rw[hv]
   ·cases h1
  ·exact chk_at cs n hk.2 j (by omega)
theorem below_over {w w2:World} {o:Obj} (k:Below (w.alloc o).heap.size (w.alloc o) w2):Below w.heap.size w w2:=
 ((Below.refl _ _).alloc (Nat.le_refl _) o).trans (k.mono (by simp))
theorem toldBy_c (f:Int) (cs:Array Value) (n:Nat) (t:TypeId) (g:Nat) (w:World) (hg:g=w.heap.size) (hn:n≤3) (hk:chk cs n=true):
  Calls Tryz.prog 164 #[.int .i64 f,.slice (some ⟨g,0,none⟩) n n] (w.alloc (.cells cs t)) fun e w'=>e=.returned (.agg #[.int .i64 f,.int .u32 (tb (pv cs) n)])∧Below w.heap.size w w':=by
 subst hg
 exact(toldBy_any n hn f _ (pv cs) _ (by simp) (by
  intro j hj
  rw[World.cell?_alloc_at _ _ _ _ rfl]
  exact chk_at cs n hk j hj)).mono fun e w' ⟨he,hb⟩=>⟨he,below_over hb⟩
def zeros:List Value→Nat→List Value
 |l,0=>l
 |l,n+1=>.int .i64 0::.int .u32 0::zeros l n
def zero34:Array Value:=(zeros [] 49).toArray
def kcells:Nat→List Value
 |0=>[]
 |n+1=>kcells n++[.int .i64 (kf n),.int .u32 (kb n)]
def kc:Array Value:=(kcells 49).toArray
theorem upon_conv {P:Program} {o:Oper} {a:Act} {K:Act→World→Prop} {Q:Exit→Act→World→Prop} {r:Result Next} (r':Result Next) (h:r=r') (k:o.upon P a K Q r'):o.upon P a K Q r:=h▸k
theorem size34:(Tryz.prog.info? 198).map (·.size)=some kc.size:=by kernel_rfl
theorem kc_ones:kc.all (·.oneCell')=true:=by kernel_rfl
theorem zero_size:zero34.size=kc.size:=by kernel_rfl
theorem store34 {w w':World} (hb:Below (w.heap.size+1) (w.alloc (.cells zero34 198)) w'):
  (storeCells ⟨w.heap.size,0,none⟩ kc.toList).run Tryz.prog w'=.ok () (w'.setRow w.heap.size kc):=by
 have hg:w'.heap[w.heap.size]?=some (.cells zero34 198 (0,0)):=(hb.block _ (by omega)).trans (heap_alloc_last _ _)
 have:=run_storeCells_from (P:=Tryz.prog) w.heap.size 198 kc.toList 0 zero34 w' hg (by rw[zero_size];simp) (fun v hv=>(Array.all_eq_true_iff_forall_mem.1 kc_ones) v (by simpa using hv))
 rw[List.take_zero,List.nil_append,Array.toArray_toList]at this
 exact this
theorem load34 {w w':World} (hb:Below (w.heap.size+1) (w.alloc (.cells zero34 198)) w'):
  (loadVar 198 ⟨w.heap.size,0,none⟩).run Tryz.prog (w'.setRow w.heap.size kc)=.ok (.agg kc) (w'.setRow w.heap.size kc):=by
 have hg:w'.heap[w.heap.size]?=some (.cells zero34 198 (0,0)):=(hb.block _ (by omega)).trans (heap_alloc_last _ _)
 exact run_loadVar_row _ _ 198 198 kc (0,0) _ (setRow_heap w' _ _ kc 198 (0,0) hg) Tryz.underlying198 rfl size34
theorem setRow_below {w w':World} {o:Obj} {c:Array Value} (hb:Below (w.heap.size+1) (w.alloc o) w'):Below w.heap.size w (w'.setRow w.heap.size c):=by
 have h:=((Below.refl w.heap.size w).alloc (Nat.le_refl _) o).trans (hb.mono (by omega))
 exact⟨h.os,h.tape,h.output,by simpa using h.size,fun k hk=>(setRow_other _ _ _ _ (by omega)).trans (h.block k hk)⟩
theorem kinds_any (w:World):Calls Tryz.prog 144 #[] w fun e w'=>e=.returned (.agg kc)∧Below w.heap.size w w':=by
 have hb:Below (w.heap.size+1) (w.alloc (.cells zero34 198)) (w.alloc (.cells zero34 198)):=Below.refl _ _
 have hB:w.heap.size+1≤(w.alloc (.cells zero34 198)).heap.size:=by simp
 go_enter Tryz.func144,Tryz.ntmps144
 go_wp2_with fail
 rw[show Tryz.zeroCells198=zero34 from by kernel_rfl]
 go_wp2_with(go_at_call 164;refine(toldBy_c _ _ _ _ _ _ ?_ ?_ ?_).mono ?_;(iterate 1 simp);(iterate 1 omega);(iterate 1 exact rfl);rintro e w' ⟨rfl,hk⟩;replace hb:=hb.trans (hk.mono hB);replace hB:=Nat.le_trans hB hk.size;clear hk)
 refine upon_conv (.ok .skip (w'.setRow w.heap.size kc)) ?_ ?_
 ·refine Eq.trans (b:=((storeCells ⟨w.heap.size,0,none⟩ kc.toList).run Tryz.prog w').andThen fun a w'=>Result.ok Next.skip w') (by kernel_rfl) ?_
  rw[store34 hb]
  rfl
 rw[Oper.upon_skip]
 go_wp2_with fail
 refine bodyPost_ret (v:=.agg kc) ?_ rfl ⟨rfl,setRow_below hb⟩
 simp[results,Tryz.results144,asAddr,Act.put,load34 hb]
end Go.Proofs.YtpiohehijkpghabGreatDoor
namespace Go.Proofs.YtpiohehijkpghabGreatDoor
open Go.RowKit
open Hy
set_option linter.unusedVariables false
attribute [local go_sem ↓] Go.wp_at_zero Go.wp_at_succ
theorem wrap_i64' (n:Int):IntKind.i64.wrap n=wrap64 n:=by
 simp[IntKind.wrap,IntKind.bits,IntKind.signed,wrap64]
 try omega
theorem res5 {w w':World} {o:Obj} {t:TypeId} (hk:Below ((w.alloc o).alloc (.cells #[.int .i64 0,.int .i64 0,.int .i64 0,.int .i64 0,.int .i32 0] t)).drew.heap.size ((w.alloc o).alloc (.cells #[.int .i64 0,.int .i64 0,.int .i64 0,.int .i64 0,.int .i32 0] t)).drew w'):
  w'.cell? ⟨w.heap.size+1,0,none⟩=some (.int .i64 0)∧w'.cell? ⟨w.heap.size+1,1,none⟩=some (.int .i64 0)∧w'.cell? ⟨w.heap.size+1,2,none⟩=some (.int .i64 0)∧w'.cell? ⟨w.heap.size+1,3,none⟩=some (.int .i64 0)∧w'.cell? ⟨w.heap.size+1,4,none⟩=some (.int .i32 0)
  ∧w'.frozen? ⟨w.heap.size+1,0,none⟩=false∧w'.frozen? ⟨w.heap.size+1,1,none⟩=false∧w'.frozen? ⟨w.heap.size+1,2,none⟩=false∧w'.frozen? ⟨w.heap.size+1,3,none⟩=false∧w'.frozen? ⟨w.heap.size+1,4,none⟩=false:=by
 obtain⟨hc,hf⟩:=bcell hk
 simp only[hc _ _ (show w.heap.size+1<_ by simp),hf _ _ (show w.heap.size+1<_ by simp)]
 simp[go_sem]
theorem read_any (c:Nat→Int) (n x:Int) (x0:0≤x) (x1:x≤4294967295)
  (hb:∀j,1≤j→0≤c j∧c j≤31) (w:World):
  Calls Tryz.prog 145 #[fv c,.int .i64 n,.int .u32 x] w fun e w'=>e=.returned (.agg #[.int .i64 n,.int .i64 (rrg x 128 (c 1)),.int .i64 (rrg x 32768 (c 2)),.int .i64 (rrg x 1048576 (c 3)),.int .i32 (rim c x)])∧Below w.heap.size w w':=by
 go_enter Tryz.func145,Tryz.ntmps145
 go_wp2_with fail
 go_region_held3 (fun w'=>w'.cell? ⟨w.heap.size,0,none⟩=some (.int .u32 (c 0))∧w'.cell? ⟨w.heap.size,1,none⟩=some (.int .u32 (c 1))∧w'.cell? ⟨w.heap.size,2,none⟩=some (.int .u32 (c 2))∧w'.cell? ⟨w.heap.size,3,none⟩=some (.int .u32 (c 3))∧w'.cell? ⟨w.heap.size,4,none⟩=some (.int .u32 (c 4))∧w'.cell? ⟨w.heap.size,5,none⟩=some (.int .u32 (c 5))∧w'.cell? ⟨w.heap.size,6,none⟩=some (.int .u32 (c 6))∧w'.cell? ⟨w.heap.size,7,none⟩=some (.int .u32 (c 7))∧w'.cell? ⟨w.heap.size,8,none⟩=some (.int .u32 (c 8))∧w'.cell? ⟨w.heap.size,9,none⟩=some (.int .u32 (c 9))∧w'.cell? ⟨w.heap.size,10,none⟩=some (.int .u32 (c 10))∧w'.cell? ⟨w.heap.size,11,none⟩=some (.int .u32 (c 11))∧w'.cell? ⟨w.heap.size,12,none⟩=some (.int .u32 (c 12))∧w'.cell? ⟨w.heap.size,13,none⟩=some (.int .u32 (c 13))∧w'.cell? ⟨w.heap.size,14,none⟩=some (.int .u32 (c 14))∧w'.cell? ⟨w.heap.size,15,none⟩=some (.int .u32 (c 15))∧w'.cell? ⟨w.heap.size,16,none⟩=some (.int .u32 (c 16))) (first|go_keep|(obtain⟨hc,hf⟩:=bcell hk;refine⟨?_,?_,?_,?_,?_,?_,?_,?_,?_,?_,?_,?_,?_,?_,?_,?_,?_⟩<;>(rw[hc _ _ (by simp;omega)];go_keep))) ((go_at_call 165;refine(readImm_any c x x0 x1 hb _).mono ?_;rintro e w' ⟨rfl,hk⟩;obtain⟨r0,r1,r2,r3,r4,z0,z1,z2,z3,z4⟩:=res5 hk))
 have hs:=hk.size
 simp at hs
 go_wp2
 refine bodyPost_ret (v:=.agg #[.int .i64 n,.int .i64 (rrg x 128 (c 1)),.int .i64 (rrg x 32768 (c 2)),.int .i64 (rrg x 1048576 (c 3)),.int .i32 (rim c x)]) ?_ rfl ⟨rfl,?_⟩
 ·simp[results,Tryz.results145,go_sem,rrg,r0,r1,r2,r3,r4]
  exact⟨wrap_i64' _,wrap_i64' _,wrap_i64' _⟩
 ·have hbase:Below w.heap.size w w':=(((Below.refl _ _).alloc (Nat.le_refl _) _).alloc (by simp) _).drew.trans (hk.mono (by simp;omega))
  repeat(first|exact hbase|refine Below.drew ?_|refine Below.setCell ?_ (by simp) _)
end Go.Proofs.YtpiohehijkpghabGreatDoor
namespace Go.Proofs.YtpiohehijkpghabGreatDoor
open Go.RowKit
open Hy
set_option linter.unusedVariables false
def Tab (w:World):Prop:=∀i,i<153→w.cell? ⟨1,i,none⟩=some (.int .u32 (ftab.getD i 0))
theorem Tab.size {w:World} (h:Tab w):1<w.heap.size:=World.block_lt_of_cell? _ _ (h 0 (by omega))
theorem Tab.below {w w':World} {B:Nat} (h:Tab w) (hb:Below B w w') (hB:1<B):Tab w':=
 fun i hi=>(hb.cell (p:=⟨1,i,none⟩) hB).trans (h i hi)
theorem Tab.alloc {w:World} (h:Tab w) (o:Obj):Tab (w.alloc o):=
 h.below ((Below.refl w.heap.size w).alloc (Nat.le_refl _) o) h.size
theorem Tab.form {w:World} (h:Tab w) (f:Nat) (hf:f<9) (j:Nat) (hj:j<17):w.cell? ⟨1,f*17+j,none⟩=some (.int .u32 (fm f j)):=by
 rw[h _ (by omega),fm,if_pos hj]
theorem ix34 (n:Nat) (hn:n<49) (w:World):(Instr.index 198 (.agg kc) (.int .i64 (n:Int))).run Tryz.prog w=.ok (.agg #[.int .i64 (kn n:Int),.int .u32 (kb n)]) w:=
 match n,hn with
 |0,_=>by kernel_rfl
 |1,_=>by kernel_rfl
 |2,_=>by kernel_rfl
 |3,_=>by kernel_rfl
 |4,_=>by kernel_rfl
 |5,_=>by kernel_rfl
 |6,_=>by kernel_rfl
 |7,_=>by kernel_rfl
 |8,_=>by kernel_rfl
 |9,_=>by kernel_rfl
 |10,_=>by kernel_rfl
 |11,_=>by kernel_rfl
 |12,_=>by kernel_rfl
 |13,_=>by kernel_rfl
 |14,_=>by kernel_rfl
 |15,_=>by kernel_rfl
 |16,_=>by kernel_rfl
 |17,_=>by kernel_rfl
 |18,_=>by kernel_rfl
 |19,_=>by kernel_rfl
 |20,_=>by kernel_rfl
 |21,_=>by kernel_rfl
 |22,_=>by kernel_rfl
 |23,_=>by kernel_rfl
 |24,_=>by kernel_rfl
 |25,_=>by kernel_rfl
 |26,_=>by kernel_rfl
 |27,_=>by kernel_rfl
 |28,_=>by kernel_rfl
 |29,_=>by kernel_rfl
 |30,_=>by kernel_rfl
 |31,_=>by kernel_rfl
 |32,_=>by kernel_rfl
 |33,_=>by kernel_rfl
 |34,_=>by kernel_rfl
 |35,_=>by kernel_rfl
 |36,_=>by kernel_rfl
 |37,_=>by kernel_rfl
 |38,_=>by kernel_rfl
 |39,_=>by kernel_rfl
 |40,_=>by kernel_rfl
 |41,_=>by kernel_rfl
 |42,_=>by kernel_rfl
 |43,_=>by kernel_rfl
 |44,_=>by kernel_rfl
 |45,_=>by kernel_rfl
 |46,_=>by kernel_rfl
 |47,_=>by kernel_rfl
 |48,_=>by kernel_rfl
 |k+49,h=>by omega
theorem below_drewN {B:Nat} {a w:World} (h:Below B a w) (n:Nat):Below B a (w.drewN n):=⟨h.os,h.tape,h.output,h.size,h.block⟩
theorem keep5 {wr w1:World} {o:Obj} {nq B:Nat} (hk:Below ((wr.alloc o).drewN nq).heap.size ((wr.alloc o).drewN nq) w1) (hB:B<wr.heap.size)
  (r0:wr.cell? ⟨B,0,none⟩=some (.int .i64 0)) (r1:wr.cell? ⟨B,1,none⟩=some (.int .i64 0)) (r2:wr.cell? ⟨B,2,none⟩=some (.int .i64 0)) (r3:wr.cell? ⟨B,3,none⟩=some (.int .i64 0)) (r4:wr.cell? ⟨B,4,none⟩=some (.int .i32 0))
  (z:∀j,wr.frozen? ⟨B,j,none⟩=false):
  w1.cell? ⟨B,0,none⟩=some (.int .i64 0)∧w1.cell? ⟨B,1,none⟩=some (.int .i64 0)∧w1.cell? ⟨B,2,none⟩=some (.int .i64 0)∧w1.cell? ⟨B,3,none⟩=some (.int .i64 0)∧w1.cell? ⟨B,4,none⟩=some (.int .i32 0)∧∀j,w1.frozen? ⟨B,j,none⟩=false:=by
 have hb:Below wr.heap.size wr w1:=(below_drewN ((Below.refl _ _).alloc (Nat.le_refl _) o) nq).trans (hk.mono (by simp))
 obtain⟨hc,hf⟩:=bcell hb
 exact⟨(hc _ _ hB).trans r0,(hc _ _ hB).trans r1,(hc _ _ hB).trans r2,(hc _ _ hB).trans r3,(hc _ _ hB).trans r4,fun j=>(hf _ _ hB).trans (z j)⟩
abbrev insv (n:Nat) (x:Int):Value:=iv n (rrg x 128 (fm (kn n) 1)) (rrg x 32768 (fm (kn n) 2)) (rrg x 1048576 (fm (kn n) 3)) (rim (fm (kn n)) x)
theorem Decode_any (x:Int) (x0:0≤x) (x1:x≤4294967295) (w:World) (ht:Tab w):
  Calls Tryz.prog 114 #[.int .u32 x] w fun e w'=>((∃n:Nat,1≤n∧n≤48∧hit n x=true∧(∀m,1≤m→m<n→hit m x=false)∧e=.returned (.tuple #[insv n x,.bool true]))∨((∀m,1≤m→m≤48→hit m x=false)∧e=.returned (.tuple #[iv 0 0 0 0 0,.bool false])))∧Below w.heap.size w w':=by
 go_enter Tryz.func114,Tryz.ntmps114
 go_wp2_with(go_at_call 144;refine(kinds_any _).mono ?_;rintro e w1 ⟨rfl,hk⟩)
 go_loopw [4,5,7] (fun o p i wl=>∃n:Nat,n≤49∧i=.int .i64 n∧(∀m,1≤m→m<n→hit m x=false)∧Below (w.heap.size+1) (w.alloc (.cells #[.int .i64 0,.int .i64 0,.int .i64 0,.int .i64 0,.int .i32 0] 77)) wl∧w.heap.size+1≤wl.heap.size) (fun _ _ k _=>49-(intOf k).toNat)
 case atStart=>
  have:=hk.size
  simp at this
  exact⟨0,by omega,rfl,fun m h1 h2=>by omega,hk.mono (by simp),this⟩
 case round=>
  clear hk w1
  obtain⟨n,hn,rfl,hno,hbe,hsz⟩:=hrel
  have htr:Tab wr:=(ht.alloc _).below hbe (by have:=ht.size;omega)
  have hbig:=htr.size
  obtain⟨hc,hf⟩:=bcell hbe
  have r0:wr.cell? ⟨w.heap.size,0,none⟩=some (.int .i64 0):=by rw[hc _ _ (by omega)];simp[go_sem]
  have r1:wr.cell? ⟨w.heap.size,1,none⟩=some (.int .i64 0):=by rw[hc _ _ (by omega)];simp[go_sem]
  have r2:wr.cell? ⟨w.heap.size,2,none⟩=some (.int .i64 0):=by rw[hc _ _ (by omega)];simp[go_sem]
  have r3:wr.cell? ⟨w.heap.size,3,none⟩=some (.int .i64 0):=by rw[hc _ _ (by omega)];simp[go_sem]
  have r4:wr.cell? ⟨w.heap.size,4,none⟩=some (.int .i32 0):=by rw[hc _ _ (by omega)];simp[go_sem]
  have z:∀j,wr.frozen? ⟨w.heap.size,j,none⟩=false:=by intro j;rw[hf _ _ (by omega)];simp[go_sem]
  clear hc hf
  have h0:=ht.size
  have hw0:0<wr.heap.size:=by omega
  by_cases hlt:n<49
  ·by_cases hn0:n=0
   ·subst hn0
    have ix:∀w,(Instr.index 198 (.agg kc) (.int .i64 0)).run Tryz.prog w=.ok (.agg #[.int .i64 0,.int .u32 0]) w:=fun w=>ix34 0 (by omega) w
    go_wp2_with fail
    go_quiet(fail)
    go_wp2_with fail
    refine⟨⟨1,by omega,by go_num,fun m h1 h2=>by omega,?_,?_⟩,by simp[intOf]⟩
    ·exact below_drewN (hbe.alloc hsz _) _
    ·simp;omega
   ·have ix:=ix34 n hlt
    obtain⟨hF9,_,hF1⟩:=kn_lt n hlt
    obtain⟨F,hF⟩:∃F,F=kn n:=⟨_,rfl⟩
    have hF1':=hF1 (by omega)
    clear hF1
    rw[←hF]at ix hF9 hF1'
    have HF:Hid (F=kn n):=hF
    clear hF
    have hne:((F:Int) != 0)=true:=by simp;omega
    have b1:(0:Int)≤(F:Int):=by omega
    have b2:(F:Int)<9:=by omega
    have f0':wr.cell? ⟨1,F*17,none⟩=some (.int .u32 (fm F 0)):=htr.form F hF9 0 (by omega)
    have f1:=htr.form F hF9 1 (by omega)
    have f2:=htr.form F hF9 2 (by omega)
    have f3:=htr.form F hF9 3 (by omega)
    have f4:=htr.form F hF9 4 (by omega)
    have f5:=htr.form F hF9 5 (by omega)
    have f6:=htr.form F hF9 6 (by omega)
    have f7:=htr.form F hF9 7 (by omega)
    have f8:=htr.form F hF9 8 (by omega)
    have f9:=htr.form F hF9 9 (by omega)
    have f10:=htr.form F hF9 10 (by omega)
    have f11:=htr.form F hF9 11 (by omega)
    have f12:=htr.form F hF9 12 (by omega)
    have f13:=htr.form F hF9 13 (by omega)
    have f14:=htr.form F hF9 14 (by omega)
    have f15:=htr.form F hF9 15 (by omega)
    have f16:=htr.form F hF9 16 (by omega)
    by_cases hh:hit n x=true
    ·have hh':(bits .and .u32 x (fm F 0)==kb n)=true:=by rw[HF.out];exact hh
     go_wp2_with fail
     go_quiet(fail)
     have hbe2:=below_drewN (hbe.alloc hsz (.cells #[.int .i64 (F:Int),.int .u32 (kb n)] 197)) nq
     go_wp2_with(go_at_call 145;refine(read_any (fm F) _ _ x0 x1 (fm_bound F hF9) _).mono ?_;rintro e w1 ⟨rfl,hk⟩;obtain⟨q0,q1,q2,q3,q4,y⟩:=keep5 hk (by omega) r0 r1 r2 r3 r4 z)
     replace hbe2:=hbe2.trans (hk.mono (by simp;omega))
     refine bodyPost_ret (v:=.tuple #[insv n x,.bool true]) ?_ rfl ⟨.inl ⟨n,by omega,by omega,hh,hno,rfl⟩,?_⟩
     ·simp[results,Tryz.results114,go_sem,q0,q1,q2,q3,q4,HF.out]
     ·have hbase:Below w.heap.size w w1:=((Below.refl _ _).alloc (Nat.le_refl _) _).trans (hbe2.mono (by omega))
      repeat(first|exact hbase|refine Below.setCell ?_ (by simp) _)
    ·have hh':(bits .and .u32 x (fm F 0)==kb n)=false:=by rw[HF.out];simpa[hit]using hh
     clear f1 f2 f3 f4 f5 f6 f7 f8 f9 f10 f11 f12 f13 f14 f15 f16
     go_wp2_with fail
     go_quiet(fail)
     go_wp2_with fail
     refine⟨⟨n+1,by omega,by go_num,?_,below_drewN (hbe.alloc hsz _) _,by simp;omega⟩,by simp[intOf];omega⟩
     intro m h1 h2
     by_cases e:m=n
     ·subst e;simpa using hh
     ·exact hno m h1 (by omega)
  ·obtain rfl:n=49:=by omega
   go_wp2_with fail
   refine bodyPost_ret (v:=.tuple #[iv 0 0 0 0 0,.bool false]) ?_ rfl ⟨.inr ⟨fun m h1 h2=>hno m h1 (by omega),rfl⟩,?_⟩
   ·simp[results,Tryz.results114,go_sem,r0,r1,r2,r3,r4]
   ·have hbase:Below w.heap.size w wr:=((Below.refl _ _).alloc (Nat.le_refl _) _).trans (hbe.mono (by omega))
    repeat(first|exact hbase|refine Below.setCell ?_ (by simp) _)
end Go.Proofs.YtpiohehijkpghabGreatDoor
namespace Go.Proofs.YtpiohehijkpghabGreatDoor
open Go.RowKit
open Hy
set_option linter.unusedVariables false
attribute [local go_sem ↓] Go.wp_at_zero Go.wp_at_succ
def back (X:Int) (n:Nat) (rd rs1 rs2 imm:Int):Prop:=hit n X=true∧(∀k,1≤k→k<n→hit k X=false)∧rrg X 128 (fm (kn n) 1)=rd∧rrg X 32768 (fm (kn n) 2)=rs1∧rrg X 1048576 (fm (kn n) 3)=rs2∧rim (fm (kn n)) X=imm
end Go.Proofs.YtpiohehijkpghabGreatDoor
