/- Whether two have a byte in common; closures that ask. -/
import Derived.Test.YtpiohehijkpghabGreatDoorChecked
import Derived.ProofKit
import Derived.Below
import Derived.Deep.MidRow
import Derived.Deep.WholeRow
import Derived.Laws.Rows
import Derived.Laws.Tables
import Derived.Deep.QuietTactic
import Derived.BigQuiet
import Derived.Deep.Cut
import Derived.Deep.RegionWith
import Derived.Deep.RegionHeld
import Derived.Shelf.Abstract
import Derived.Lib.SliceRun
import Derived.Test.YtpiohehijkpghabGreatDoorG24
import Derived.Test.YtpiohehijkpghabGreatDoorG23
import Derived.Test.YtpiohehijkpghabGreatDoorG04
set_option maxRecDepth 20000
set_option maxHeartbeats 1000000
namespace Go.Proofs.YtpiohehijkpghabGreatDoor.Co
open Go.RowKit
open Hy
open Wi Od Re.Hy
open Gu.Hy (Tb tcs)
set_option linter.unusedVariables false
set_option linter.unusedSimpArgs false
def dcdM (x:Int):Option In:=if 0≤x∧x≤4294967295 then dcdW x else none
def brM (t:Tb) (pc:Int):Bool×Int:=(Gu.saysB t (Gu.kb pc),t.G (Gu.kb pc))
def vaM (t:Tb) (pc:Int):Int×Bool:=(Gu.isV t (Gu.kw pc) pc,Gu.saysV t (Gu.kw pc) pc)
def lbM (t:Tb) (pc:Int) (tk:Bool) (g:Int):Tb:=Gu.behindB t (Gu.kb pc) tk g
def lvM (t:Tb) (pc v:Int):Tb:=Gu.behindV t (Gu.kw pc) pc v
def mach:Mc:=⟨dcdM,doW,brM,vaM,lbM,lvM⟩
theorem dcdN_is (X:Int):∀k m,dcdN X k=some m→1≤m∧m≤k
 |0,m,h=>by cases h
 |k+1,m,h=>by
  unfold dcdN at h
  cases e:dcdN X k with
  |some j=>
   rw[e]at h
   simp only[Option.some.injEq]at h
   subst h
   have:=dcdN_is X k _ e
   omega
  |none=>
   rw[e]at h
   simp only[]at h
   split at h
   ·simp only[Option.some.injEq]at h;omega
   ·cases h
theorem fm1s:∀m,m<49→((16≤m∧m≤18)∨47≤m)→fm (kn m) 1=0:=by decide
theorem dcdM_some {x:Int} {i:In} (h:dcdM x=some i):0≤x∧x≤4294967295∧∃m,dcdN x 48=some m∧1≤m∧m≤48∧i=⟨m,(rrg x 128 (fm (kn m) 1)).toNat,(rrg x 32768 (fm (kn m) 2)).toNat,(rrg x 1048576 (fm (kn m) 3)).toNat,rim (fm (kn m)) x⟩:=by
 unfold dcdM at h
 split at h
 ·rename_i hx
  unfold dcdW at h
  cases e:dcdN x 48 with
  |none=>rw[e]at h;cases h
  |some m=>
   rw[e]at h
   simp only[Option.some.injEq]at h
   have:=dcdN_is x 48 m e
   exact⟨hx.1,hx.2,m,rfl,this.1,this.2,h.symm⟩
 ·cases h
theorem dcdM_ok {x:Int} {i:In} (h:dcdM x=some i):InOk i:=by
 obtain⟨x0,x1,m,hm,m0,m1,rfl⟩:=dcdM_some h
 have h1:=rd_rng m (by omega) x x0 x1
 have h2:=rs1_rng m (by omega) x x0 x1
 have h3:=rs2_rng m (by omega) x x0 x1
 have h4:=imm_rng m m0 m1 x x0 x1
 exact⟨by show Int.toNat _<32;omega,by show Int.toNat _<32;omega,by show Int.toNat _<32;omega,h4.1,h4.2,by show(1:Int)≤m;omega,by show(m:Int)≤48;omega⟩
theorem dcdM_rd {x:Int} {i:In} (h:dcdM x=some i) (ho:(5≤i.op∧i.op≤10)∨(16≤i.op∧i.op≤18)∨47≤i.op):i.rd=0:=by
 obtain⟨x0,x1,m,hm,m0,m1,rfl⟩:=dcdM_some h
 simp only[]at ho⊢
 rcases ho with ho|ho|ho
 ·rw[rd_branch m (by omega) (by omega) x x0 x1];rfl
 ·rw[fm1s m (by omega) (by omega),rrg_7z x x0 (by omega)];rfl
 ·rw[fm1s m (by omega) (by omega),rrg_7z x x0 (by omega)];rfl
theorem stn_in {op:Int} (h:16≤op∧op≤18):(stn op=1∨stn op=2∨stn op=4):=by
 rcases(by omega:op=16∨op=17∨op=18)with rfl|rfl|rfl<;>simp[stn]
theorem doW_cases (i:In) (pc a b:Int) (n:Nat):(16≤i.op∧i.op≤18∧fits n (place i a) (stn i.op)=true∧doW i pc a b n=⟨pc,(pc+4)%4294967296,0,0,0,0,place i a,stn i.op,b%p256 (stn i.op).toNat,false,0⟩)∨(16≤i.op∧i.op≤18∧doW i pc a b n=trapC pc 4)∨(i.op=46∧doW i pc a b n=onC pc 0 0)∨
  (i.op=47∧(doW i pc a b n=⟨pc,pc,1,0,0,0,0,0,0,false,0⟩∨doW i pc a b n=⟨pc,(pc+4)%4294967296,0,0,0,0,0,0,0,true,b⟩∨doW i pc a b n=trapC pc 5))∨(i.op=48∧doW i pc a b n=trapC pc 6)∨(¬(16≤i.op∧i.op≤18)∧i.op≠46∧i.op≠47∧i.op≠48∧doW i pc a b n=giveC pc (nxW i pc a b) i.rd (rkW i pc a b)):=by
 unfold doW
 by_cases h1:sts i=true
 ·rw[if_pos h1]
  have h1':16≤i.op∧i.op≤18:=by simpa[sts]using h1
  by_cases h2:fits n (place i a) (stn i.op)=true
  ·rw[if_pos h2];exact .inl ⟨h1'.1,h1'.2,h2,rfl⟩
  ·rw[if_neg h2];exact .inr (.inl ⟨h1'.1,h1'.2,rfl⟩)
 ·have h1':¬(16≤i.op∧i.op≤18):=by simpa[sts]using h1
  rw[if_neg h1]
  by_cases h2:i.op=46
  ·rw[if_pos h2];exact .inr (.inr (.inl ⟨h2,rfl⟩))
  rw[if_neg h2]
  by_cases h3:i.op=47
  ·rw[if_pos h3]
   refine .inr (.inr (.inr (.inl ⟨h3,?_⟩)))
   by_cases h4:a=0
   ·rw[if_pos h4];exact .inl rfl
   ·rw[if_neg h4]
    by_cases h5:a=1
    ·rw[if_pos h5];exact .inr (.inl rfl)
    ·rw[if_neg h5];exact .inr (.inr rfl)
  rw[if_neg h3]
  by_cases h4:i.op=48
  ·rw[if_pos h4];exact .inr (.inr (.inr (.inr (.inl ⟨h4,rfl⟩))))
  ·rw[if_neg h4];exact .inr (.inr (.inr (.inr (.inr ⟨h1',h2,h3,h4,rfl⟩))))
theorem trn_not {i:In} (h:i.op<4∨10<i.op):trn i=false:=by unfold trn;exact decide_eq_false (by omega)
theorem gvs_not {i:In} (h:i.op≠46):gvs i=i.rd:=if_neg h
theorem mach_ok:MOk mach:=by
 refine⟨fun{x i} h=>?_,fun{x i} pc a b n h hl hs=>?_,fun{x i} pc a b n h hl hs=>?_,fun{x i} pc a b n h hl=>?_⟩
 ·have:=dcdM_ok h
  exact⟨this.lr,this.l1,this.l2,this.o0,this.o1⟩
 ·show(doW i pc a b n).next=pc∧(doW i pc a b n).rd=0∧i.op≠3∧trn i=false∧(doW i pc a b n).many=0
  have hs':(doW i pc a b n).st≠0:=hs
  rcases doW_cases i pc a b n with⟨h1,h2,h3,e⟩|⟨h1,h2,e⟩|⟨h1,e⟩|⟨h1,e|e|e⟩|⟨h1,e⟩|⟨h1,h2,h3,h4,e⟩<;>rw[e]at hs'⊢
  ·exact absurd rfl hs'
  ·exact⟨rfl,rfl,by omega,trn_not (by omega),rfl⟩
  ·exact absurd rfl hs'
  ·exact⟨rfl,rfl,by omega,trn_not (by omega),rfl⟩
  ·exact absurd rfl hs'
  ·exact⟨rfl,rfl,by omega,trn_not (by omega),rfl⟩
  ·exact⟨rfl,rfl,by omega,trn_not (by omega),rfl⟩
  ·exact absurd rfl hs'
 ·show(doW i pc a b n).rd=gvs i
  have hs':(doW i pc a b n).st=0:=hs
  rcases doW_cases i pc a b n with⟨h1,h2,h3,e⟩|⟨h1,h2,e⟩|⟨h1,e⟩|⟨h1,e|e|e⟩|⟨h1,e⟩|⟨h1,h2,h3,h4,e⟩<;>rw[e]at hs'⊢
  ·rw[gvs_not (by omega),dcdM_rd h (by omega)]
  ·exact absurd (show(2:Int)=0 from hs') (by decide)
  ·unfold gvs;rw[if_pos h1];rfl
  ·exact absurd (show(1:Int)=0 from hs') (by decide)
  ·rw[gvs_not (by omega),dcdM_rd h (by omega)]
  ·exact absurd (show(2:Int)=0 from hs') (by decide)
  ·exact absurd (show(2:Int)=0 from hs') (by decide)
  ·rw[gvs_not (by omega)];rfl
 ·show(doW i pc a b n).many=0∨(sts i=true∧((doW i pc a b n).many=1∨(doW i pc a b n).many=2∨(doW i pc a b n).many=4)∧0≤(doW i pc a b n).pl∧(doW i pc a b n).pl+(doW i pc a b n).many≤n)
  rcases doW_cases i pc a b n with⟨h1,h2,h3,e⟩|⟨h1,h2,e⟩|⟨h1,e⟩|⟨h1,e|e|e⟩|⟨h1,e⟩|⟨h1,h2,h3,h4,e⟩<;>rw[e]
  ·refine .inr ⟨by unfold sts;exact decide_eq_true ⟨h1,h2⟩,stn_in ⟨h1,h2⟩,(fits_pos h3).1,(fits_pos h3).2.2⟩
  all_goals exact .inl rfl
def U32 (x:Int):Prop:=0≤x∧x≤4294967295
structure CmR (c:Cm):Prop where
 pc:U32 c.pc
 next:U32 c.next
 st:0≤c.st∧c.st≤2
 ca:0≤c.ca∧c.ca≤6
 rd:c.rd<32
 val:U32 c.val
 pl:U32 c.pl
 many:c.many=0∨c.many=1∨c.many=2∨c.many=4
 data:U32 c.data
 told:U32 c.told
theorem u0:U32 0:=⟨by omega,by omega⟩
theorem s02:(0:Int)≤0∧(0:Int)≤2:=by omega
theorem s12:(0:Int)≤1∧(1:Int)≤2:=by omega
theorem s22:(0:Int)≤2∧(2:Int)≤2:=by omega
theorem s06:(0:Int)≤0∧(0:Int)≤6:=by omega
theorem z32:0<32:=by decide
theorem umod (x:Int):U32 (x%4294967296):=⟨by omega,by omega⟩
theorem cmR_z:CmR zcm:=⟨u0,u0,s02,s06,z32,u0,u0,.inl rfl,u0,u0⟩
theorem cmR_trap {pc k:Int} (h:U32 pc) (hk:0≤k∧k≤6):CmR (trapC pc k):=⟨h,h,s22,hk,z32,u0,u0,.inl rfl,u0,u0⟩
theorem cmR_on {pc v:Int} {rd:Nat} (h:U32 pc) (hr:rd<32) (hv:U32 v):CmR (onC pc rd v):=
 ⟨h,umod _,s02,s06,hr,by show U32 (if rd=0 then 0 else v);split;exact u0;exact hv,u0,.inl rfl,u0,u0⟩
theorem cmR_give {pc nx v:Int} {rd:Nat} (h:U32 pc) (hn:U32 nx) (hr:rd<32) (hv:U32 v):CmR (giveC pc nx rd v):=
 ⟨h,hn,s02,s06,hr,by show U32 (if rd=0 then 0 else v);split;exact u0;exact hv,u0,.inl rfl,u0,u0⟩
theorem nxW_rng (i:In) (pc a b:Int):U32 (nxW i pc a b):=by
 unfold nxW U32
 split
 ·omega
 ·split
  ·omega
  ·split<;>omega
theorem rkW_rng (i:In) (pc a b:Int) (ha:U32 a) (hb:U32 b):U32 (rkW i pc a b):=by
 unfold rkW
 split
 ·exact umod _
 ·split
  ·exact umod _
  ·split
   ·exact umod _
   ·split
    ·exact alu_range _ _ _ ha.1 ha.2 (umod _).1 (umod _).2
    ·exact alu_range _ _ _ ha.1 ha.2 hb.1 hb.2
theorem cmR_do {i:In} (hi:InOk i) {pc a b:Int} {n:Nat} (hp:U32 pc) (ha:U32 a) (hb:U32 b):CmR (doW i pc a b n):=by
 rcases doW_cases i pc a b n with⟨h1,h2,h3,e⟩|⟨h1,h2,e⟩|⟨h1,e⟩|⟨h1,e|e|e⟩|⟨h1,e⟩|⟨h1,h2,h3,h4,e⟩<;>rw[e]
 ·refine⟨hp,umod _,s02,s06,z32,u0,umod _,.inr (stn_in ⟨h1,h2⟩),?_,u0⟩
  show U32 (b%p256 (stn i.op).toNat)
  unfold U32
  have hb':=hb
  unfold U32 at hb'
  rcases stn_in ⟨h1,h2⟩with e|e|e<;>rw[e]<;>simp[p256]<;>omega
 ·exact cmR_trap hp ⟨by decide,by decide⟩
 ·exact cmR_on hp (by decide) u0
 ·exact⟨hp,hp,s12,s06,z32,u0,u0,.inl rfl,u0,u0⟩
 ·exact⟨hp,umod _,s02,s06,z32,u0,u0,.inl rfl,u0,hb⟩
 ·exact cmR_trap hp ⟨by decide,by decide⟩
 ·exact cmR_trap hp ⟨by decide,by decide⟩
 ·exact cmR_give hp (nxW_rng _ _ _ _) hi.lr (rkW_rng _ _ _ _ ha hb)
theorem br_rng {t:Tb} (ht:Gu.TbOk t) (pc:Int) (hp:U32 pc):U32 (brM t pc).2:=ht.G _ (by unfold Gu.kb U32 at*;omega)
theorem va_rng {t:Tb} (ht:Gu.TbOk t) (pc:Int):U32 (vaM t pc).1:=by
 show U32 (Gu.isV t (Gu.kw pc) pc)
 unfold Gu.isV
 split
 ·exact umod _
 ·exact u0
theorem up_rng {f:Nat→Int} {n k:Nat} {v:Int} (h:∀i,i<n→0≤f i∧f i≤4294967295) (hv:U32 v):∀i,i<n→0≤Gu.Hy.up f k v i∧Gu.Hy.up f k v i≤4294967295:=fun i hi=>by
 unfold Gu.Hy.up
 split
 ·exact hv
 ·exact h i hi
theorem lb_ok {t:Tb} (ht:Gu.TbOk t) (pc:Int) (tk:Bool) {g:Int} (hg:U32 g):Gu.TbOk (lbM t pc tk g):=by
 unfold lbM Gu.behindB
 cases tk with
 |true=>exact⟨up_rng ht.G hg,ht.P,ht.A,ht.S⟩
 |false=>exact⟨ht.G,ht.P,ht.A,ht.S⟩
end Go.Proofs.YtpiohehijkpghabGreatDoor.Co
namespace Go.Proofs.YtpiohehijkpghabGreatDoor.Od
open Go.Proofs.YtpiohehijkpghabGreatDoor.Wi
open Go.RowKit
open Hy
set_option linter.unusedVariables false
theorem info7:(Tryz.prog.info? 100).map (·.size)=some 7:=by kernel_rfl
theorem heap_lt {w:World} {b:Nat} {o:Obj} (h:w.heap[b]?=some o):b<w.heap.size:=(Array.getElem?_eq_some_iff.1 h).1
theorem below_row {B:Nat} {a w:World} (h:Below B a w) {g:Nat} (hg:B≤g) (cs:Array Value):Below B a (w.setRow g cs):=
 ⟨h.os,h.tape,h.output,by simpa using h.size,fun k hk=>(setRow_other _ _ _ _ (by omega)).trans (h.block k hk)⟩
theorem one_box {Φ:World→Prop} {w:World} {A:Obj} (h:∀W:World,W.heap[w.heap.size]?=some A→Below w.heap.size w W→Φ W):Φ (w.alloc A):=
 h _ (heap_alloc_new _ _) ((Below.refl _ _).alloc (Nat.le_refl _) _)
theorem two_boxes {Φ:World→Prop} {w:World} {A B:Obj} (h:∀W:World,W.heap[w.heap.size]?=some A→W.heap[w.heap.size+1]?=some B→Below w.heap.size w W→w.heap.size+2≤W.heap.size→Φ W):Φ ((w.alloc A).alloc B):=
 h _ (heap_alloc2_old _ _ _) (heap_alloc2_new _ _ _) (((Below.refl _ _).alloc (Nat.le_refl _) _).alloc (by simp) _) (by simp)
theorem yieldsIf_load_row {P:Program} {ops:Array Oper} {S:World→Prop} {op:Oper} {a:Act} (hw:Region.wanted op (yielded ops a.tmps)=true) (ty:TypeId) (x:Operand) (ho:op.op=.load ty x)
  (g:Nat) (hx:a.eval x=.pointer (some ⟨g,0,none⟩)) (t:TypeId) (cs:Array Value) (fr:Nat×Nat) (d:TypeDesc) (hS:∀w,S w→w.heap[g]?=some (.cells cs t fr))
  (hu:P.underlying ty=some d) (hd:(match d with|.struct _|.array _ _=>true|_=>false)=true) (hi:(P.info? ty).map (·.size)=some cs.size):YieldsIf P ops S op (.agg cs) a:=
 .inl ⟨hw,fun w hw'=>by
  unfold execOp
  simp only[ho,hx,Instr.loadAt,Instr.sureAddr,Sem.run_bind,Sem.run_pure,Result.andThen_ok,run_loadVar_row w g t ty cs fr d (hS w hw') hu hd hi]⟩
theorem wpList_store_new {P:Program} {ops:Array Oper} {rest:List Oper} {o:Oper} {a:Act} {W:World} {Q:Exit→Act→World→Prop} (hgd:o.guard=none) (ty:TypeId) (x y:Operand) (ho:o.op=.store ty x y)
  (cells:Array Value) (t:TypeId) (old:Array Value) (hx:a.eval x=.pointer (some ⟨W.heap.size,0,none⟩)) (hy:a.eval y=.agg cells)
  (hi:(P.info? ty).map (·.size)=some cells.size) (hold:old.size=cells.size) (h1:cells.all (·.oneCell')=true)
  (h:∀V:World,V.heap[W.heap.size]?=some (.cells cells t (0,0))→Below W.heap.size W V→wpList P ops Q rest (a.put o.dst undef) V):wpList P ops Q (o::rest) a (W.alloc (.cells old t (0,0))):=
 wpList_store_row hgd ty x y ho W.heap.size cells hx hy t old (heap_alloc_new _ _) hi hold h1 (h _ (setRow_heap _ _ _ _ _ _ (heap_alloc_new _ _)) (below_row ((Below.refl _ _).alloc (Nat.le_refl _) _) (Nat.le_refl _) _))
def Box (w:World) (b:Nat) (p:Ac):Prop:=w.heap[b]?=some (.cells #[.int .i64 p.seq,.bool p.st,.bool p.kn,.int .u32 p.pl,.int .i64 p.many,.int .u32 p.data,.bool p.done] 100 (0,0))
theorem Box.below {w w':World} {b B:Nat} {p:Ac} (h:Box w b p) (hB:w.heap.size≤B) (hb:Below B w w'):Box w' b p:=(hb.block b (Nat.lt_of_lt_of_le (heap_lt h) hB)).trans h
theorem Box.cell {w:World} {b:Nat} {p:Ac} (h:Box w b p) {j:Nat} {u:Value} (hj:(cel p)[j]?=some u):w.cell? ⟨b,j,none⟩=some u:=(cell_of_row _ _ _ _ _ _ h).trans (by simpa[cel]using hj)
theorem uwidth_any (p:Ac) (w:World):Calls Tryz.prog 151 #[acv p] w fun e w'=>e=.returned (.int .u64 (wd p))∧Below w.heap.size w w':=by
 obtain⟨s,t,k,x,m,d,o⟩:=p
 rcases(by omega:m<0∨(0≤m∧m≤4)∨4<m)with h|h|h
 ·have HV:Hid (wd ⟨s,t,k,x,m,d,o⟩=0):=by show wd _=_;simp[wd,h]
  go_enter Tryz.func151,Tryz.ntmps151
  go_wp2
  go_ret
  exact⟨ret_int (by have:=HV.out;omega),(Below.refl _ _).alloc (Nat.le_refl _) _⟩
 ·have HV:Hid (wd ⟨s,t,k,x,m,d,o⟩=m):=by show wd _=_;simp[wd];omega
  go_enter Tryz.func151,Tryz.ntmps151
  go_wp2
  go_ret
  exact⟨ret_int (by have:=HV.out;omega),(Below.refl _ _).alloc (Nat.le_refl _) _⟩
 ·have HV:Hid (wd ⟨s,t,k,x,m,d,o⟩=4):=by show wd _=_;simp[wd];omega
  go_enter Tryz.func151,Tryz.ntmps151
  go_wp2
  go_ret
  exact⟨ret_int (by have:=HV.out;omega),(Below.refl _ _).alloc (Nat.le_refl _) _⟩
theorem uahead_any (p:Ac) (seq:Int) (w:World):Calls Tryz.prog 99 #[acv p,.int .i64 seq] w fun e w'=>e=.returned (.bool (ahd seq p))∧Below w.heap.size w w':=by
 obtain⟨s,t,k,x,m,d,o⟩:=p
 go_enter Tryz.func99,Tryz.ntmps99
 go_wp2
 all_goals(go_ret;refine⟨?_,(Below.refl _ _).alloc (Nat.le_refl _) _⟩;simp_all[ahd])
theorem uover_any (p:Ac) (seq:Int) (w:World):Calls Tryz.prog 153 #[acv p,.int .i64 seq] w fun e w'=>e=.returned (.bool (ovr seq p))∧Below w.heap.size w w':=by
 obtain⟨s,t,k,x,m,d,o⟩:=p
 go_enter Tryz.func153,Tryz.ntmps153
 go_wp2
 all_goals(go_ret;refine⟨?_,(Below.refl _ _).alloc (Nat.le_refl _) _⟩;simp_all[ovr])
def ldo (many:Int):Int:=if many=1 then 14 else if many=2 then 15 else if many=4 then 13 else 0
theorem uload_any (many:Int) (w:World):Calls Tryz.prog 95 #[.int .i64 many] w fun e w'=>e=.returned (.int .i64 (ldo many))∧w'=w:=by
 go_enter Tryz.func95,Tryz.ntmps95
 go_wp2
 all_goals(go_ret;refine⟨?_,rfl⟩;simp_all[ldo])
theorem uhas_any (p:Ac) (ho:p.Ok) (x:Int) (x0:0≤x) (x1:x≤18446744073709551615) (w:World):Calls Tryz.prog 129 #[acv p,.int .u64 x] w fun e w'=>e=.returned (.bool (hs p x))∧Below w.heap.size w w':=by
 have C:=fun w=>uwidth_any p w
 have hr:=wd_rng p
 obtain⟨D,hD⟩:∃D,D=wd p:=⟨_,rfl⟩
 have HV:Hid (hs p x=decide (p.pl≤x∧x<p.pl+D)):=by rw[hD];rfl
 rw[←hD]at C hr
 clear hD
 obtain⟨h1,h2,_,_,_,_⟩:=ho
 obtain⟨s,t,k,y,m,d,o⟩:=p
 simp only at h1 h2 HV
 by_cases hle:y≤x
 ·go_enter Tryz.func129,Tryz.ntmps129
  go_wp2_with fail
  refine(C _).mono ?_
  rintro e w' ⟨rfl,hb⟩
  have HB:Hid (Below w.heap.size w w'):=((Below.refl _ w).alloc (Nat.le_refl _) _).trans (hb.mono (by simp))
  clear C hb
  go_wp2_with fail
  go_ret
  exact⟨by rw[HV.out];simp[hle],HB.out⟩
 ·go_enter Tryz.func129,Tryz.ntmps129
  go_wp2_with fail
  go_ret
  exact⟨by rw[HV.out];simp;omega,(Below.refl _ _).alloc (Nat.le_refl _) _⟩
theorem umeet_any (s a:Ac) (hs1:Hid s.Ok) (ha:Hid a.Ok) (w:World):Calls Tryz.prog 154 #[acv s,acv a] w fun e w'=>e=.returned (.bool (mt s a))∧Below w.heap.size w w':=by
 obtain⟨D,hD⟩:∃D:Nat,wd a=D:=⟨(wd a).toNat,by have:=wd_rng a;omega⟩
 have hD4:D≤4:=by have:=wd_rng a;omega
 have C:=fun w=>uwidth_any a w
 rw[hD]at C
 have HD:Hid (wd a=D):=hD
 clear hD
 have p0:=ha.out.p0
 have p1:=ha.out.p1
 go_enter Tryz.func154,Tryz.ntmps154
 go_upto_region 1 with fail
 refine two_boxes (Φ:=fun W=>Code.wp _ _ _ _ W) ?_
 intro W h1 h2 hb hsz
 have B1:Hid (Box W w.heap.size s):=h1
 have B2:Hid (Box W (w.heap.size+1) a):=h2
 have HB0:Hid (Below w.heap.size w W):=hb
 clear h1 h2 hb
 go_wp2_with(refine wpList_load_row rfl 100 _ rfl _ rfl 100 _ (0,0) _ B2.out Tryz.underlying100 rfl info7 ?_)
 refine(C _).mono ?_
 rintro e W1 ⟨rfl,hb⟩
 have HB1:Hid (Below W.heap.size W W1):=hb
 clear hb C
 go_wp2_with fail
 go_loopw [8] (fun i wr=>∃k:Nat,k≤D∧i=.int .u64 k∧Hid (Below W.heap.size W wr)∧Hid (∀j:Nat,j<k→hs s (a.pl+j)=false))
  (fun i _=>D-(intOf i).toNat)
 case atStart=>exact⟨0,by omega,rfl,HB1,fun j hj=>absurd hj (by omega)⟩
 case round=>
  obtain⟨k,hk,rfl,HB,HN⟩:=hrel
  have R1:Hid (Box wr w.heap.size s):=B1.out.below (Nat.le_refl _) HB.out
  have c3:wr.cell? ⟨w.heap.size+1,3,none⟩=some (.int .u32 a.pl):=(B2.out.below (Nat.le_refl _) HB.out).cell rfl
  by_cases hlt:k<D
  ·have C:=fun w=>uhas_any s hs1.out (a.pl+k) (by omega) (by omega) w
   cases hh:hs s (a.pl+k)with
   |true=>
    rw[hh]at C
    have HM:Hid (mt s a=true):=mt_of hh (decide_eq_true ⟨by omega,by rw[HD.out];omega⟩)
    clear hh
    go_wp2_with(refine wpList_load_row rfl 100 _ rfl _ rfl 100 _ (0,0) _ R1.out Tryz.underlying100 rfl info7 ?_)
    refine(C _).mono ?_
    rintro e W2 ⟨rfl,hb⟩
    have HB2:Hid (Below w.heap.size w W2):=HB0.out.trans ((HB.out.trans (hb.mono HB.out.size)).mono HB0.out.size)
    clear hb C
    go_wp2_with fail
    go_ret
    exact⟨by rw[HM.out];rfl,HB2.out⟩
   |false=>
    rw[hh]at C
    have HN':Hid (∀j:Nat,j<k+1→hs s (a.pl+j)=false):=fun j hj=>by
     by_cases e:j=k
     ·rw[e];exact hh
     ·exact HN.out j (by omega)
    clear hh
    go_wp2_with(refine wpList_load_row rfl 100 _ rfl _ rfl 100 _ (0,0) _ R1.out Tryz.underlying100 rfl info7 ?_)
    refine(C _).mono ?_
    rintro e W2 ⟨rfl,hb⟩
    have HB2:Hid (Below W.heap.size W W2):=HB.out.trans (hb.mono HB.out.size)
    clear hb C
    go_wp2_with fail
    exact⟨⟨k+1,by omega,by go_num,HB2,HN'⟩,by simp[intOf];omega⟩
  ·have HM:Hid (mt s a=false):=by
    show mt s a=false
    cases hm:mt s a with
    |false=>rfl
    |true=>
     obtain⟨x,_,h1,h2⟩:=mt_ex hm
     simp only[hs,decide_eq_true_eq]at h2
     rw[HD.out]at h2
     have:=HN.out (x-a.pl).toNat (by omega)
     rw[show a.pl+((x-a.pl).toNat:Int)=x by omega,h1]at this
     cases this
   have HB2:Hid (Below w.heap.size w wr):=HB0.out.trans (HB.out.mono HB0.out.size)
   go_wp2_with fail
   go_ret
   exact⟨by rw[HM.out];rfl,HB2.out⟩
def Asks (g:Nat) (b:Nat) (p:Ac→Bool) (w:World):Prop:=
 ∀(W:World) (q:Ac),Below w.heap.size w W→Calls Tryz.prog g #[acv q,.pointer (some ⟨b,0,none⟩)] W fun e w'=>e=.returned (.bool (p q))∧Below W.heap.size W w'
theorem asks_unk (B:Nat) (seq:Int) (w:World) (hc:w.cell? ⟨B,0,none⟩=some (.int .i64 seq)):Asks 98 B (unk seq) w:=by
 intro W q hb
 have hB:B<w.heap.size:=World.block_lt_of_cell? _ _ hc
 have hc1:W.cell? ⟨B,0,none⟩=some (.int .i64 seq):=(hb.cell (p:=⟨B,0,none⟩) hB).trans hc
 have hB1:B<W.heap.size:=Nat.lt_of_lt_of_le hB hb.size
 clear hb hc hB
 have C:=fun w=>uahead_any q seq w
 go_enter Tryz.func98,Tryz.ntmps98
 go_upto_region 1 with fail
 refine one_box (Φ:=fun W=>Code.wp _ _ _ _ W) ?_
 intro V h1 hb
 have B1:Hid (Box V W.heap.size q):=h1
 have HB1:Hid (Below W.heap.size W V):=hb
 have c1:V.cell? ⟨B,0,none⟩=some (.int .i64 seq):=(hb.cell (p:=⟨B,0,none⟩) hB1).trans hc1
 clear h1 hb hc1
 cases hh:ahd seq q with
 |true=>
  rw[hh]at C
  have HM:Hid (unk seq q=!q.kn):=by show(_&&_)=_;rw[hh];rfl
  clear hh
  go_wp2_with(refine wpList_load_row rfl 100 _ rfl _ rfl 100 _ (0,0) _ B1.out Tryz.underlying100 rfl info7 ?_)
  refine(C _).mono ?_
  rintro e W2 ⟨rfl,hb⟩
  have HB2:Hid (Below W.heap.size W W2):=HB1.out.trans (hb.mono HB1.out.size)
  have c2:W2.cell? ⟨W.heap.size,2,none⟩=some (.bool q.kn):=(B1.out.below (Nat.le_refl _) hb).cell rfl
  clear hb C
  go_wp2_with fail
  go_ret
  exact⟨by rw[HM.out];rfl,HB2.out⟩
 |false=>
  rw[hh]at C
  have HM:Hid (unk seq q=false):=by show(_&&_)=_;rw[hh];rfl
  clear hh
  go_wp2_with(refine wpList_load_row rfl 100 _ rfl _ rfl 100 _ (0,0) _ B1.out Tryz.underlying100 rfl info7 ?_)
  refine(C _).mono ?_
  rintro e W2 ⟨rfl,hb⟩
  have HB2:Hid (Below W.heap.size W W2):=HB1.out.trans (hb.mono HB1.out.size)
  clear hb C
  go_wp2_with fail
  go_ret
  exact⟨by rw[HM.out];rfl,HB2.out⟩
theorem asks_sto (B:Nat) (seq:Int) (w:World) (hc:w.cell? ⟨B,0,none⟩=some (.int .i64 seq)):Asks 152 B (sto1 seq) w:=by
 intro W q hb
 have hB:B<w.heap.size:=World.block_lt_of_cell? _ _ hc
 have hc1:W.cell? ⟨B,0,none⟩=some (.int .i64 seq):=(hb.cell (p:=⟨B,0,none⟩) hB).trans hc
 have hB1:B<W.heap.size:=Nat.lt_of_lt_of_le hB hb.size
 clear hb hc hB
 obtain⟨s,t,k,x,m,d,o⟩:=q
 go_enter Tryz.func152,Tryz.ntmps152
 go_wp2
 all_goals(go_ret;refine⟨?_,(Below.refl _ _).alloc (Nat.le_refl _) _⟩;simp_all[sto1]<;>rfl)
theorem eg_unk:∀args w,(callFunc 98 args).run Tryz.prog w=.ok (.enter 98 args) w:=enters_of Tryz.func98 (by kernel_rfl) rfl
theorem eg_sto:∀args w,(callFunc 152 args).run Tryz.prog w=.ok (.enter 152 args) w:=enters_of Tryz.func152 (by kernel_rfl) rfl
theorem aIndexFunc_any (g b:Nat) (p:Ac→Bool) (eg:∀args w,(callFunc g args).run Tryz.prog w=.ok (.enter g args) w) (a:Option Addr) (n c:Nat) (hn:n≤140737488355328) (l:List Ac) (m:Nat) (hm:Hid (FirstA p l m)) (r:Int) (hr:Hid (r=if m<n then(m:Int)else-1)) (w:World) (hL:Hid (LC w a n c 7 (acs l))) (hA:Hid (Asks g b p w)):
  Calls Tryz.prog 66 #[.slice a n c,.func (.func g) #[] #[.pointer (some ⟨b,0,none⟩)]] w fun e w'=>e=.returned (.int .i64 r)∧Below w.heap.size w w':=by
 have hlen:Hid (l.length=n):=by have:=hL.out.len;rw[acs_len]at this;show _=_;omega
 have hmn:m≤n:=by have:=hm.out.le;have:=hlen.out;omega
 go_enter Tryz.func66,Tryz.ntmps66
 go_wp2_with fail
 go_loopw [8] (fun i wr=>∃k:Nat,k≤m∧i=.int .i64 k∧Hid (Below w.heap.size w wr))
  (fun i _=>n-(intOf i).toNat)
 case atStart=>exact⟨0,by omega,rfl,Below.refl _ _⟩
 case round=>
  obtain⟨k,hk,rfl,HB⟩:=hrel
  by_cases hlt:k<n
  ·obtain⟨q,hq⟩:=atA_ex (l:=l) (k:=k) (by rw[hlen.out];exact hlt)
   obtain⟨bb,o,rfl,hb,hc⟩:=hL.out.sure (by omega)
   have cc:∀j u,(cel q)[j]?=some u→wr.cell? ⟨bb,o+(k*7+j),none⟩=some u:=fun j u hj=>(HB.out.cell (p:=⟨bb,o+(k*7+j),none⟩) hb).trans (hc _ _ (acs_at _ _ _ _ _ hq hj))
   have c0:wr.cell? ⟨bb,o+k*7,none⟩=some (.int .i64 q.seq):=cc 0 _ rfl
   have c1:wr.cell? ⟨bb,o+k*7+1,none⟩=some (.bool q.st):=cc 1 _ rfl
   have c2:wr.cell? ⟨bb,o+k*7+2,none⟩=some (.bool q.kn):=cc 2 _ rfl
   have c3:wr.cell? ⟨bb,o+k*7+3,none⟩=some (.int .u32 q.pl):=cc 3 _ rfl
   have c4:wr.cell? ⟨bb,o+k*7+4,none⟩=some (.int .i64 q.many):=cc 4 _ rfl
   have c5:wr.cell? ⟨bb,o+k*7+5,none⟩=some (.int .u32 q.data):=cc 5 _ rfl
   have c6:wr.cell? ⟨bb,o+k*7+6,none⟩=some (.bool q.done):=cc 6 _ rfl
   have hcall:=hA.out wr q HB.out
   by_cases hkm:k=m
   ·subst hkm
    have hp:p q=true:=hm.out.yes _ hq
    rw[hp]at hcall
    have hrk:r=k:=by rw[hr.out,if_pos hlt]
    subst hrk
    clear hc hq hp cc
    go_wp2_with fail
    refine hcall.mono ?_
    rintro e w' ⟨rfl,hb'⟩
    have HB':Hid (Below w.heap.size w w'):=HB.out.trans (hb'.mono HB.out.size)
    clear hcall hb' c0 c1 c2 c3 c4 c5 c6
    go_wp2_with fail
    go_ret
    exact⟨rfl,HB'.out⟩
   ·have hp:p q=false:=hm.out.no k _ (by omega) hq
    rw[hp]at hcall
    clear hc hq hp cc
    go_wp2_with fail
    refine hcall.mono ?_
    rintro e w' ⟨rfl,hb'⟩
    have HB':Hid (Below w.heap.size w w'):=HB.out.trans (hb'.mono HB.out.size)
    clear hcall hb' c0 c1 c2 c3 c4 c5 c6
    go_wp2_with fail
    exact⟨⟨k+1,by omega,by go_num,HB'⟩,by simp[intOf];omega⟩
  ·have:k=n:=by omega
   subst this
   have hrk:r=-1:=by rw[hr.out,if_neg (by omega)]
   subst hrk
   go_wp2_with fail
   go_ret
   exact⟨rfl,HB.out⟩
theorem aContainsFunc_any (g b:Nat) (p:Ac→Bool) (eg:∀args w,(callFunc g args).run Tryz.prog w=.ok (.enter g args) w) (a:Option Addr) (n c:Nat) (hn:n≤140737488355328) (l:List Ac) (m:Nat) (hm:Hid (FirstA p l m)) (r:Bool) (hr:Hid (r=decide (m<n))) (w:World) (hL:Hid (LC w a n c 7 (acs l))) (hA:Hid (Asks g b p w)):
  Calls Tryz.prog 97 #[.slice a n c,.func (.func g) #[] #[.pointer (some ⟨b,0,none⟩)]] w fun e w'=>e=.returned (.bool r)∧Below w.heap.size w w':=by
 obtain⟨x,hx⟩:∃x,Hid (x=if m<n then(m:Int)else-1):=⟨_,rfl⟩
 have C:=fun w hL hA=>aIndexFunc_any g b p eg a n c hn l m hm x hx w hL hA
 have hr2:Hid (decide (0≤x)=r):=by
  show _=_
  rw[hr.out,hx.out]
  by_cases h:m<n
  ·rw[if_pos h];simp[h]
  ·rw[if_neg h];simp[h]
 go_enter Tryz.func97,Tryz.ntmps97
 go_wp2_with fail
 refine(C _ hL hA).mono ?_
 rintro e w' ⟨rfl,hb⟩
 have HB:Hid (Below w.heap.size w w'):=hb
 clear hb C
 go_wp2_with fail
 go_ret
 exact⟨by simp[hr2.out],HB.out⟩
end Go.Proofs.YtpiohehijkpghabGreatDoor.Od
