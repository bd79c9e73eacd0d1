/- What slices.Concat comes to, of two slices of numbers. -/
import Derived.Maps.OwnOps
import Derived.Maps.Views
import Derived.OwnWalk
import Derived.Laws.OwnMore
import Derived.Test.YtpiohehijkpghacGreatDoorChecked
import Derived.ProofKit
import Derived.Below
import Derived.Deep.MidRow
import Derived.Deep.WholeRow
import Derived.Laws.Rows
import Derived.Laws.Tables
import Derived.Deep.QuietTactic
import Derived.BigQuiet
import Derived.Deep.Cut
import Derived.Deep.RegionWith
import Derived.Deep.RegionHeld
import Derived.Lib.SliceRun
import Derived.Test.YtpiohehijkpghacGreatDoorG03
set_option maxRecDepth 20000
set_option maxHeartbeats 1000000
namespace Go.Proofs.YtpiohehijkpghacGreatDoor.Re
open Go.RowKit
open Re.Hy
set_option linter.unusedVariables false
structure Lie (w:World) (a:Option Addr) (n c:Nat) (f:Nat→Int):Prop where
 le:n≤c
 top:c≤maxLen
 nil:a=none→n=0∧c=0
 wf:∀i,i<n→(Lit.int .i64 (f i)).wf=true
 ad:∀x,a=some x→0<n→∃b o,x=⟨b,o,none⟩∧∀i,i<n→w.cell? ⟨b,o+i,none⟩=some (.int .i64 (f i))
theorem Lie.below {w w':World} {a:Option Addr} {n c:Nat} {f:Nat→Int} (h:Lie w a n c f) {B:Nat} (hB:w.heap.size≤B) (hb:Below B w w'):Lie w' a n c f:=
 ⟨h.le,h.top,h.nil,h.wf,fun x hx h0=>by
  obtain⟨b,o,rfl,hc⟩:=h.ad x hx h0
  exact⟨b,o,rfl,fun i hi=>(hb.cell (p:=⟨b,o+i,none⟩) (Nat.lt_of_lt_of_le (World.block_lt_of_cell? _ _ (hc i hi)) hB)).trans (hc i hi)⟩⟩
theorem Lie.congr {w:World} {a:Option Addr} {n c:Nat} {f f':Nat→Int} (h:Lie w a n c f) (e:∀i,i<n→f i=f' i):Lie w a n c f':=
 ⟨h.le,h.top,h.nil,fun i hi=>by rw[←e i hi];exact h.wf i hi,fun x hx h0=>by
  obtain⟨b,o,rfl,hc⟩:=h.ad x hx h0
  exact⟨b,o,rfl,fun i hi=>by rw[←e i hi];exact hc i hi⟩⟩
theorem Lie.sure {w:World} {a:Option Addr} {n c:Nat} {f:Nat→Int} (h:Lie w a n c f) (hn:0<n):∃b o,a=some ⟨b,o,none⟩∧b<w.heap.size∧∀i,i<n→w.cell? ⟨b,o+i,none⟩=some (.int .i64 (f i)):=by
 cases a with
 |none=>have:=(h.nil rfl).1;omega
 |some x=>
  obtain⟨b,o,rfl,hc⟩:=h.ad x rfl hn
  exact⟨b,o,rfl,World.block_lt_of_cell? _ _ (hc 0 hn),hc⟩
def Far (B:Nat) (a:Option Addr):Prop:=∀x,a=some x→B≤x.block
theorem Far.mono {B B':Nat} {a:Option Addr} (h:Far B a) (hB:B'≤B):Far B' a:=fun x hx=>Nat.le_trans hB (h x hx)
theorem Lie.moved {w w':World} {a:Option Addr} {n c:Nat} {f:Nat→Int} (h:Lie w a n c f) (hb:∀x,a=some x→w'.heap[x.block]?=w.heap[x.block]?):Lie w' a n c f:=
 ⟨h.le,h.top,h.nil,h.wf,fun x hx h0=>by
  have e:=hb x hx
  obtain⟨b,o,rfl,hc⟩:=h.ad x hx h0
  exact⟨b,o,rfl,fun i hi=>(World.cell?_of_block (w:=w) (a:=⟨b,o+i,none⟩) e).trans (hc i hi)⟩⟩
def row (f:Nat→Int) (n:Nat):List Value:=(List.range n).map fun i=>Value.int .i64 (f i)
theorem row_len (f:Nat→Int) (n:Nat):(row f n).length=n:=by simp[row]
theorem row_at {f:Nat→Int} {n j:Nat} {u:Value} (h:(row f n)[j]?=some u):j<n∧u=.int .i64 (f j):=by
 have hj:j<n:=by have:=(List.getElem?_eq_some_iff.1 h).1;rwa [row_len]at this
 refine⟨hj,?_⟩
 simp[row,hj]at h
 exact h.symm
theorem row_get (f:Nat→Int) {n j:Nat} (h:j<n):(row f n)[j]?=some (.int .i64 (f j)):=by simp[row,h]
theorem row_one (f:Nat→Int) (n:Nat):∀u∈row f n,u.oneCell'=true:=by
 intro u hu
 obtain⟨x,_,rfl⟩:=List.mem_map.1 hu
 rfl
def cat (F:Nat→Int) (n:Nat) (f:Nat→Int) (i:Nat):Int:=if i<n then F i else f (i-n)
theorem row_cat (F:Nat→Int) (n:Nat) (f:Nat→Int) (m:Nat):row F n++row f m=row (cat F n f) (n+m):=by
 apply List.ext_getElem?
 intro j
 by_cases h:j<n
 ·rw[List.getElem?_append_left (by rw[row_len];exact h),row_get _ h,row_get _ (by omega)]
  unfold cat
  rw[if_pos h]
 ·rw[List.getElem?_append_right (by rw[row_len];omega),row_len]
  by_cases h2:j<n+m
  ·rw[row_get _ (by omega),row_get _ h2]
   unfold cat
   rw[if_neg h]
  ·rw[List.getElem?_eq_none (by rw[row_len];omega),List.getElem?_eq_none (by rw[row_len];omega)]
theorem row_congr {f f':Nat→Int} {n:Nat} (e:∀i,i<n→f i=f' i):row f n=row f' n:=by
 unfold row
 apply List.map_congr_left
 intro i hi
 rw[e i (by simpa using hi)]
theorem lie_of_own {w:World} {B e n:Nat} {v:Value} {f:Nat→Int} (hown:w.ownsRow B e 1 v n (row f n)) (hw:∀i,i<n→(Lit.int .i64 (f i)).wf=true):∃a c,v=.slice a n c∧Lie w a n c f∧Far B a:=by
 have hown0:=hown
 obtain⟨_,hcase⟩:=hown
 rcases hcase with⟨rfl,rfl⟩|⟨g,cap,cur,rfl,hg,hh,hn',hcap,hsz,htake⟩
 ·exact⟨none,0,rfl,⟨Nat.le_refl _,by unfold maxLen;omega,fun _=>⟨rfl,rfl⟩,hw,fun x hx _=>by cases hx⟩,fun x hx=>by cases hx⟩
 ·refine⟨_,cap,rfl,⟨hn',hcap,fun h=>(nomatch h),hw,fun x hx _=>⟨g,0,(Option.some.inj hx).symm,fun i hi=>?_⟩⟩,fun x hx=>by obtain rfl:=Option.some.inj hx;exact hg⟩
  have:=hown0.cells (g:=g) rfl i _ (row_get f hi)
  rwa [Addr.add_lit]at this
theorem wpList_append_lie {P:Program} (w:World) {ops:Array Oper} {rest:List Oper} {o:Oper} {a:Act} {Q:Exit→Act→World→Prop} (hgd:o.guard=none) (s x:Operand) (t:TypeId)
  (ho:o.op=.call {callee:=.builtin .append,args:=#[s,x],argTypes:=#[t,t]})
  (base:Nat) (e:TypeId) (i:TypeInfo) (ht:P.underlying t=some (.slice e)) (hi:P.info? e=some i) (hz:i.zero=some (.int .i64 0)) (hsize:i.size=1) (hby:i.bytes=8)
  (v:Value) (n:Nat) (F:Nat→Int) (hs:a.eval s=v) (hown:w.ownsRow base e 1 v n (row F n))
  (ao:Option Addr) (m c:Nat) (f:Nat→Int) (hx:a.eval x=.slice ao m c) (hl:Lie w ao m c f) (hb:n+m≤1000000) (hbase:base≤w.heap.size)
  (h:∀v' w',w'.ownsRow base e 1 v' (n+m) (row (cat F n f) (n+m))→w.grownBy w' v.ownBlock→wpList P ops Q rest (a.put o.dst v') w'):wpList P ops Q (o::rest) a w:=by
 cases ao with
 |some ad=>
  refine wpList_append_own w hgd s x t ho base e i (.int .i64 0) 1 8 ht hi hz hsize hby rfl (by decide) v n _ hs hown ad m c (row f m) hx (by rw[row_len];omega) (fun j u hj=>?_) (row_one f m) (by unfold maxLen;omega) (by omega) hbase fun v' w' h1 h2 _=>h v' w' (by rw[←row_cat];exact h1) h2
  obtain⟨hj',rfl⟩:=row_at hj
  obtain⟨b,o',rfl,hc⟩:=hl.ad ad rfl (by omega)
  rw[Addr.add_lit]
  exact hc j hj'
 |none=>
  obtain⟨rfl,rfl⟩:=hl.nil rfl
  refine wpList_plain hgd fun K hK'=>?_
  have hrun:=run_append_owned_none (P:=P) w base t o.type e i 1 ht hi v n _ hown
  unfold Oper.wp
  simp only[execOp,ho,resolve,invoke,builtin,Sem.run_bind,Sem.run_pure,Result.andThen_ok,List.map_toArray,List.map_cons,List.map_nil,hs,hx,hrun]
  exact hK' _ _ (h v w (by rw[←row_cat];simpa[row]using hown) (World.grownBy.refl _ _))
structure Cnts (D:DataW Unit) (g:Nat→Int) (k:Nat):Prop where
 is:Maps.IsMap D
 at':∀x,D.atKey (.int .i64 x) (.lit (.int .i64 0))=.lit (.int .i64 (cn g x k))
theorem cnts_zero (g:Nat→Int):Cnts (.map []) g 0:=⟨⟨[],rfl⟩,fun x=>rfl⟩
theorem Cnts.num {D:DataW Unit} {g:Nat→Int} {k:Nat} (h:Cnts D g k) {x c:Int} (hat:D.atKey (.int .i64 x) (.lit (.int .i64 0))=.lit (.int .i64 c)):c=cn g x k:=by
 have:=(h.at' x).symm.trans hat
 injection this with e
 injection e with _ e
 exact e.symm
theorem Cnts.step {D:DataW Unit} {g:Nat→Int} {k:Nat} (h:Cnts D g k) {y c:Int} (hy:y=c+1) (hc:c=cn g (g k) k):Cnts (D.put (.int .i64 (g k)) (.lit (.int .i64 y))) g (k+1):=by
 refine⟨h.is.put _ _,fun x=>?_⟩
 by_cases e:g k=x
 ·subst e
  rw[Maps.atKey_put_same (k:=.int .i64 (g k)) h.is (show WideAt.IsKeyLit (.int .i64 (g k))from trivial),hy,hc]
  show _=DataW.lit (Lit.int _ ((cn g (g k) k+(if g k=g k then 1 else 0):Nat):Int))
  rw[if_pos rfl]
  rfl
 ·rw[Maps.atKey_put_other (by intro e2;injection e2 with _ e2;exact e e2.symm),h.at' x]
  show _=DataW.lit (Lit.int _ ((cn g x k+(if g k=x then 1 else 0):Nat):Int))
  rw[if_neg e,Nat.add_zero]
theorem wrap_small {c:Int} (h0:0≤c) (h1:c≤1000000):wrap64 c=c:=by
 have:=WalkArith.wf_i64 (n:=c) (by omega)
 unfold wrap64
 first|omega|(simp;omega)
theorem Cnts.next {D:DataW Unit} {g:Nat→Int} {k:Nat} (h:Cnts D g k) {x c:Int} (hx:x=g k) (hat:D.atKey (.int .i64 x) (.lit (.int .i64 0))=.lit (.int .i64 c)) (hk:k<1000000):Cnts (D.put (.int .i64 x) (.lit (.int .i64 (wrap64 (c+1))))) g (k+1):=by
 subst hx
 have e:=h.num hat
 have:=cn_le g (g k) k
 exact h.step (wrap_small (by omega) (by omega)) e
theorem nenough_any (x:Int) (w:World):Calls Tryz.prog 49 #[.int .i64 x] w fun e w'=>e=.returned (.bool (decide (33≤x∧x≤96)))∧w'=w:=by
 go_enter Tryz.func49,Tryz.ntmps49
 go_wp2
 all_goals go_ret
 all_goals exact⟨by simp;omega,rfl⟩
theorem nnamed_any (x:Int) (w:World):Calls Tryz.prog 170 #[.int .i64 x] w fun e w'=>e=.returned (.bool (decide (1≤x∧x<32)))∧w'=w:=by
 go_enter Tryz.func170,Tryz.ntmps170
 go_wp2
 all_goals go_ret
 all_goals exact⟨by simp;try omega,rfl⟩
end Go.Proofs.YtpiohehijkpghacGreatDoor.Re
namespace Go.Proofs.YtpiohehijkpghacGreatDoor.Re
open Go.RowKit Go.Maps
open Re.Hy
set_option linter.unusedVariables false
theorem heap_lt {w:World} {b:Nat} {o:Obj} (h:w.heap[b]?=some o):b<w.heap.size:=(Array.getElem?_eq_some_iff.1 h).1
theorem law3:Keyed Tryz.prog 3:=int_keyed Tryz.underlying3
theorem zero3 (w:World):(zeroValue 3).run Tryz.prog w=.ok (.int .i64 0) w:=by kernel_rfl
theorem nused_any (T:Array Value) (P:Int) (r f:Nat→Int) (a:Option Addr) (n c:Nat) (hT:Hid (T=mcs P r (.slice a n c))) (hF:T[33]?=some (.slice a n c)) (hR:Hid (∀k,k<32→(Lit.int .i64 (r k)).wf=true)) (hn:n≤64) (w:World) (hL:Hid (Lie w a n c f)):
  Calls Tryz.prog 148 #[.agg T] w fun e w'=>∃B D,e=.returned (.map (some B))∧w'.ownsMap Tryz.prog 3 (plainElem (H:=Unit) Tryz.prog 3) B (32+n) D∧Cnts D (jn r f) (32+n)∧Below w.heap.size w w':=by
 have hmm:∀(x:Int) (w:World),(Instr.makeMap 231 (some (.int .i64 x))).run Tryz.prog w=.ok (.map (some w.heap.size)) (w.alloc (.map #[] 0)):=fun x w=>by
  simp only[Instr.makeMap,Sem.run_bind,run_underlying Tryz.underlying231,Result.andThen_ok]
  rfl
 go_enter Tryz.func148,Tryz.ntmps148
 go_wp2
 have hB0:Below w.heap.size w ((w.alloc (Obj.cells T 59)).alloc (Obj.map #[] 0)):=((Below.refl _ _).alloc (Nat.le_refl _) _).alloc (by simp) _
 go_loopw [12] (fun i wr=>∃k:Nat,k≤32∧i=.int .i64 k∧∃D,wr.ownsMap Tryz.prog 3 (plainElem (H:=Unit) Tryz.prog 3) (w.heap.size+1) k D∧Cnts D (jn r f) k∧wr.heap[w.heap.size]?=some (.cells T 59 (0,0))∧Below w.heap.size w wr)
  (fun i _=>32-(intOf i).toNat)
 case atStart=>exact⟨0,by omega,rfl,_,by simpa using World.ownsMap_made (w.alloc (Obj.cells T 59)) _ _ _,cnts_zero _,heap_alloc2_old _ _ _,hB0⟩
 case round=>
  obtain⟨k,hk,rfl,D,hown,hcn,hrow,hnx⟩:=hrel
  by_cases hlt:k<32
  ·have hcx:wr.cell? ⟨w.heap.size,1+k,none⟩=some (.int .i64 (r k)):=(cell_of_row wr w.heap.size _ _ _ _ hrow).trans (by rw[hT.out];exact mcs_R _ _ _ _ hlt)
   have hkey:keyOf Tryz.prog 3 (.int .i64 (r k))=some (.int .i64 (r k)):=keyOf_int_mk Tryz.underlying3 (hR.out k hlt)
   have HO:Hid (Below w.heap.size w wr):=hnx
   have HR0:Hid (wr.heap[w.heap.size]?=some (.cells T 59 (0,0))):=hrow
   clear hnx hrow
   go_wp2_with(first
    |(at_lookup;refine wpList_lookup_own_int _ rfl _ _ 231 rfl 3 3 .i64 law3 Tryz.underlying231 Tryz.underlying3 (zero3 _) (w.heap.size+1) k _ rfl hown _ _ rfl hkey ?_;intro c hat hwc)
    |(at_mapUpdate;refine wpList_mapUpdate_own _ rfl _ _ _ 231 rfl 3 3 law3 Tryz.underlying231 _ (w.heap.size+1) k _ rfl hown (by unfold maxLen;omega) _ _ _ rfl rfl hkey _ [] (plainElem_int Tryz.underlying3 (wrap64_wf _)) ?_;intro w1 hown1 hgrow1)
    |go_in)
   go_roundw
   case rel=>exact⟨k+1,by omega,by go_num,_,hown1,hcn.next (jn_r hlt).symm hat (by omega),(hgrow1.block _ (heap_lt HR0.out) (by simp)).trans HR0.out,HO.out.grown hgrow1 HO.out.size (fun j hj=>by cases hj;omega)⟩
   case measure=>simp[intOf];omega
  ·have:k=32:=by omega
   subst this
   rw[show((32:Nat):Int)=32 from rfl]
   have hcF:wr.cell? ⟨w.heap.size,33,none⟩=some (.slice a n c):=(cell_of_row wr w.heap.size _ _ _ _ hrow).trans hF
   go_wp2
   have HO:Hid (Below w.heap.size w wr):=hnx
   clear hnx hrow hcF
   go_loopw [26] (fun i wr=>∃k:Nat,k≤n∧i=.int .i64 k∧∃D,wr.ownsMap Tryz.prog 3 (plainElem (H:=Unit) Tryz.prog 3) (w.heap.size+1) (32+k) D∧Cnts D (jn r f) (32+k)∧Below w.heap.size w wr)
    (fun i _=>n-(intOf i).toNat)
   case atStart=>exact⟨0,by omega,rfl,_,hown,hcn,HO.out⟩
   case round=>
    obtain⟨k,hk,rfl,D,hown,hcn,hnx⟩:=hrel
    by_cases hlt:k<n
    ·obtain⟨b,o,rfl,hb,hc⟩:=hL.out.sure (by omega)
     have hcx:wr.cell? ⟨b,o+k,none⟩=some (.int .i64 (f k)):=(hnx.cell (p:=⟨b,o+k,none⟩) hb).trans (hc k hlt)
     have hkey:keyOf Tryz.prog 3 (.int .i64 (f k))=some (.int .i64 (f k)):=keyOf_int_mk Tryz.underlying3 (hL.out.wf k hlt)
     have HO:Hid (Below w.heap.size w wr):=hnx
     clear hnx hc
     go_wp2_with(first
      |(at_lookup;refine wpList_lookup_own_int _ rfl _ _ 231 rfl 3 3 .i64 law3 Tryz.underlying231 Tryz.underlying3 (zero3 _) (w.heap.size+1) (32+k) _ rfl hown _ _ rfl hkey ?_;intro c hat hwc)
      |(at_mapUpdate;refine wpList_mapUpdate_own _ rfl _ _ _ 231 rfl 3 3 law3 Tryz.underlying231 _ (w.heap.size+1) (32+k) _ rfl hown (by unfold maxLen;omega) _ _ _ rfl rfl hkey _ [] (plainElem_int Tryz.underlying3 (wrap64_wf _)) ?_;intro w1 hown1 hgrow1)
      |go_in)
     go_roundw
     case rel=>exact⟨k+1,by omega,by go_num,_,hown1,hcn.next (jn_f k).symm hat (by omega),HO.out.grown hgrow1 HO.out.size (fun j hj=>by cases hj;omega)⟩
     case measure=>simp[intOf];omega
    ·have:k=n:=by omega
     subst this
     go_wp2
     go_ret
     exact⟨_,_,rfl,hown,hcn,hnx⟩
abbrev Rg (r:Nat→Int):Prop:=∀k,k<32→(Lit.int .i64 (r k)).wf=true
theorem wpList_load_row_g {P:Program} {ops:Array Oper} {rest:List Oper} {o:Oper} {a:Act} {w:World} {Q:Exit→Act→World→Prop} (hw:Region.wanted o (yielded ops a.tmps)=true) (ty:TypeId) (x:Operand) (ho:o.op=.load ty x)
  (g:Nat) (hx:a.eval x=.pointer (some ⟨g,0,none⟩)) (t:TypeId) (cs:Array Value) (fr:Nat×Nat) (d:TypeDesc) (hg:w.heap[g]?=some (.cells cs t fr))
  (hu:P.underlying ty=some d) (hd:(match d with|.struct _|.array _ _=>true|_=>false)=true) (hi:(P.info? ty).map (·.size)=some cs.size)
  (h:wpList P ops Q rest (a.put o.dst (.agg cs)) w):wpList P ops Q (o::rest) a w:=by
 unfold wpList
 rw[if_pos hw]
 exact Or.inl (wp_load_row ty x ho g hx t cs fr d hg hu hd hi h)
theorem wpList_lookup_g {H:Type} {P:Program} (w:World) {ops:Array Oper} {rest:List Oper} {o:Oper} {a:Act} {Q:Exit→Act→World→Prop}
  (hg:Region.wanted o (yielded ops a.tmps)=true) (m x:Operand) (t:TypeId) (hop:o.op=Op.lookup t m x false)
  (k e:TypeId) (q:IntKind) (K:Keyed P k) (ht:P.underlying t=some (.map k e)) (he:P.underlying e=some (.int q)) (hz:(zeroValue e).run P w=.ok (.int q 0) w) (b n:Nat) (D:DataW H)
  (hm:a.eval m=.map (some b)) (hown:w.ownsMap P k (plainElem P e) b n D) (key:Value) (kl:Lit) (hx:a.eval x=key) (hkey:keyOf P k key=some kl)
  (hK:∀c:Int,D.atKey kl (.lit (.int q 0))=.lit (.int q c)→(Lit.int q c).wf=true→wpList P ops Q rest (a.put o.dst (.int q c)) w):
  wpList P ops Q (o::rest) a w:=by
 unfold wpList
 rw[if_pos hg]
 left
 obtain⟨c,hrun,hat,hwc⟩:=hown.lookup_int K ht he hz hkey
 unfold Oper.wp
 simp[execOp,hop,hm,hx,hrun,Result.andThen]
 exact hK c hat hwc
theorem size_map:(Tryz.prog.info? 59).map (·.size)=some 34:=by kernel_rfl
theorem map_info {T:Array Value} {P:Int} {r:Nat→Int} {v:Value} (h:T=mcs P r v):(Tryz.prog.info? 59).map (·.size)=some T.size:=by rw[size_map,h];rfl
theorem heap_alloc_new (w:World) (o:Obj):(w.alloc o).heap[w.heap.size]?=some o:=by
 show(w.heap.push o)[w.heap.size]?=some o
 simp
theorem nMay_any (T:Array Value) (P:Int) (r f:Nat→Int) (a:Option Addr) (n c:Nat) (b:Bool) (hT:Hid (T=mcs P r (.slice a n c))) (hb:Hid (b=true↔MayBe P n r f))
  (h0:T[0]?=some (.int .i64 P)) (hF:T[33]?=some (.slice a n c)) (hR:Hid (Rg r)) (hn:n≤140737488355328) (w:World) (hL:Hid (Lie w a n c f)):
  Calls Tryz.prog 113 #[.agg T] w fun e w'=>e=.returned (.bool b)∧Below w.heap.size w w':=by
 have C1:=nenough_any P
 by_cases hp:33≤P∧P≤96
 ·rw[decide_eq_true hp]at C1
  by_cases hm:(32+n:Int)≤P
  ·have C2:=fun w=>nused_any T P r f a n c hT hF hR (by omega) w
   have HI:Hid ((Tryz.prog.info? 59).map (·.size)=some T.size):=map_info hT.out
   go_enter Tryz.func113,Tryz.ntmps113
   go_upto_region 1 with fail
   generalize hW:w.alloc (Obj.cells T 59)=W
   have HR0:Hid (W.heap[w.heap.size]?=some (.cells T 59 (0,0))):=by rw[←hW];show _=_;exact heap_alloc_new _ _
   have HB0:Hid (Below w.heap.size w W):=by rw[←hW];exact(Below.refl _ _).alloc (Nat.le_refl _) _
   have c0:W.cell? ⟨w.heap.size,0,none⟩=some (.int .i64 P):=(cell_of_row W w.heap.size _ _ _ _ HR0.out).trans h0
   have c33:W.cell? ⟨w.heap.size,33,none⟩=some (.slice a n c):=(cell_of_row W w.heap.size _ _ _ _ HR0.out).trans hF
   clear hW
   go_wp2_with fail
   refine(C1 _).mono ?_
   rintro e w' ⟨rfl,rfl⟩
   go_wp2_with(refine wpList_load_row rfl 59 _ rfl _ rfl 59 _ (0,0) _ HR0.out Tryz.underlying59 rfl HI.out ?_)
   refine(C2 _ (hL.out.below (Nat.le_refl _) HB0.out)).mono ?_
   rintro e W1 ⟨B,D,rfl,hown,hcn,hk⟩
   have c0':W1.cell? ⟨w.heap.size,0,none⟩=some (.int .i64 P):=(hk.cell (p:=⟨w.heap.size,0,none⟩) (heap_lt HR0.out)).trans c0
   have HB1:Hid (Below w.heap.size w W1):=HB0.out.trans (hk.mono HB0.out.size)
   clear hk HR0 HB0 c0 c33
   go_wp2_with fail
   have hfin:(32+(n:Int)-(sm (o1 (jn r f) (32+n)) P.toNat:Nat)=0)↔b=true:=by
    rw[hb.out]
    constructor
    ·intro h
     exact⟨hp.1,hp.2,(all_prog _ _ _).1 ⟨by omega,by omega⟩⟩
    ·intro h
     have:=((all_prog _ _ _).2 h.all).2
     omega
   go_loopw [3,24] (fun v i wr=>∃k:Nat,∃m:Int,k≤P.toNat∧i=.int .i64 k∧v=.int .i64 m∧m=32+(n:Int)-(sm (o1 (jn r f) (32+n)) k:Nat)∧wr=W1)
    (fun _ i _=>P.toNat-(intOf i).toNat)
   case atStart=>exact⟨0,_,by omega,rfl,rfl,by simp[sm],rfl⟩
   case round=>
    obtain⟨k,m,hk,rfl,rfl,hm,rfl⟩:=hrel
    have hs:sm (o1 (jn r f) (32+n)) k≤k:=sm_ones k (fun i hi=>(show o1 (jn r f) (32+n) i≤1 by unfold o1;split<;>omega))
    have m0:-100≤m:=by omega
    have m1:m≤1000:=by omega
    by_cases hlt:k<P.toNat
    ·have hlt':(k:Int)<P:=by omega
     have hkey:keyOf Tryz.prog 3 (.int .i64 (k:Int))=some (.int .i64 (k:Int)):=keyOf_int_mk Tryz.underlying3 (WalkArith.wf_i64 (by omega))
     have hstep:sm (o1 (jn r f) (32+n)) (k+1)=sm (o1 (jn r f) (32+n)) k+o1 (jn r f) (32+n) k:=rfl
     go_wp2_with(at_lookup;refine wpList_lookup_own_int _ rfl _ _ 231 rfl 3 3 .i64 law3 Tryz.underlying231 Tryz.underlying3 (zero3 _) B (32+n) _ rfl hown _ _ rfl hkey ?_;intro q hat hwc)
     all_goals have hq:=hcn.num hat
     all_goals have ho:(cn (jn r f) (k:Int) (32+n)=1∧o1 (jn r f) (32+n) k=1)∨(cn (jn r f) (k:Int) (32+n)≠1∧o1 (jn r f) (32+n) k=0):=by unfold o1;split<;>simp_all
     all_goals refine⟨⟨k+1,_,by omega,by go_num,rfl,?_,trivial⟩,by simp[intOf];omega⟩
     all_goals rw[hstep]
     all_goals first|(have h1:q=1:=by simpa using(by assumption:(q==1)=true))|(have h1:q≠1:=by simpa using(by assumption:(q==1)=false))
     all_goals omega
    ·have:k=P.toNat:=by omega
     subst this
     have hlt':¬(((P.toNat:Nat):Int)<P):=by omega
     go_wp2
     go_ret
     refine⟨congrArg (fun x=>Ending.returned (Value.bool x)) (?_:_=b),HB1.out⟩
     rw[Bool.eq_iff_iff,←hfin]
     simp
  ·have hbf:b=false:=by
    cases b
    ·rfl
    ·have:=(hb.out.1 rfl).few;omega
   subst hbf
   go_enter Tryz.func113,Tryz.ntmps113
   go_wp2_with fail
   refine(C1 _).mono ?_
   rintro e w' ⟨rfl,rfl⟩
   go_wp2_with fail
   go_ret
   exact⟨rfl,by first|exact Below.refl _ _|exact(Below.refl _ _).alloc (Nat.le_refl _) _⟩
 ·have hbf:b=false:=by
   cases b
   ·rfl
   ·have:=hb.out.1 rfl
    exact absurd ⟨this.low,this.high⟩ hp
  subst hbf
  rw[decide_eq_false hp]at C1
  go_enter Tryz.func113,Tryz.ntmps113
  go_wp2_with fail
  refine(C1 _).mono ?_
  rintro e w' ⟨rfl,rfl⟩
  go_wp2_with fail
  go_ret
  exact⟨rfl,by first|exact Below.refl _ _|exact(Below.refl _ _).alloc (Nat.le_refl _) _⟩
theorem nidle_any (T:Array Value) (P:Int) (r f:Nat→Int) (a:Option Addr) (n c:Nat) (x:Int) (b:Bool) (hT:Hid (T=mcs P r (.slice a n c))) (hb:Hid (b=true↔Idle P n r f x))
  (h0:T[0]?=some (.int .i64 P)) (hF:T[33]?=some (.slice a n c)) (hR:Hid (Rg r)) (hn:n≤64) (hP:P≤96) (w:World) (hL:Hid (Lie w a n c f)):
  Calls Tryz.prog 114 #[.agg T,.int .i64 x] w fun e w'=>e=.returned (.bool b)∧Below w.heap.size w w':=by
 have C2:=fun w=>nused_any T P r f a n c hT hF hR hn w
 have HI:Hid ((Tryz.prog.info? 59).map (·.size)=some T.size):=map_info hT.out
 by_cases hp:0≤x∧x<P
 ·obtain⟨x0,x1⟩:=hp
  go_enter Tryz.func114,Tryz.ntmps114
  go_upto_region 1 with fail
  generalize hW:w.alloc (Obj.cells T 59)=W
  have HR0:Hid (W.heap[w.heap.size]?=some (.cells T 59 (0,0))):=by rw[←hW];show _=_;exact heap_alloc_new _ _
  have HB0:Hid (Below w.heap.size w W):=by rw[←hW];exact(Below.refl _ _).alloc (Nat.le_refl _) _
  have c0:W.cell? ⟨w.heap.size,0,none⟩=some (.int .i64 P):=(cell_of_row W w.heap.size _ _ _ _ HR0.out).trans h0
  have c33:W.cell? ⟨w.heap.size,33,none⟩=some (.slice a n c):=(cell_of_row W w.heap.size _ _ _ _ HR0.out).trans hF
  clear hW
  go_wp2_with(refine wpList_load_row_g (by rfl) 59 _ rfl _ rfl 59 _ (0,0) _ HR0.out Tryz.underlying59 rfl HI.out ?_)
  refine(C2 _ (hL.out.below (Nat.le_refl _) HB0.out)).mono ?_
  rintro e W1 ⟨B,D,rfl,hown,hcn,hk⟩
  have HB1:Hid (Below w.heap.size w W1):=HB0.out.trans (hk.mono HB0.out.size)
  clear hk HR0 HB0 c0 c33
  have hkey:keyOf Tryz.prog 3 (.int .i64 x)=some (.int .i64 x):=keyOf_int_mk Tryz.underlying3 (WalkArith.wf_i64 (by omega))
  go_wp2_with(at_lookup;refine wpList_lookup_g _ (by rfl) _ _ 231 rfl 3 3 .i64 law3 Tryz.underlying231 Tryz.underlying3 (zero3 _) B (32+n) _ rfl hown _ _ rfl hkey ?_;intro q hat hwc)
  have hq:=hcn.num hat
  go_ret
  refine⟨congrArg (fun x=>Ending.returned (Value.bool x)) (?_:_=b),HB1.out⟩
  rw[Bool.eq_iff_iff,hb.out]
  constructor
  ·intro h
   exact⟨x0,x1,by simp at h;omega⟩
  ·intro h
   have:=h.no
   simp;omega
 ·have hbf:b=false:=by
   cases b
   ·rfl
   ·have:=hb.out.1 rfl
    exact absurd ⟨this.lo,this.hi⟩ hp
  subst hbf
  by_cases x0:0≤x
  ·have x1:decide (x<P)=false:=by simp;omega
   go_enter Tryz.func114,Tryz.ntmps114
   go_upto_region 1 with fail
   generalize hW:w.alloc (Obj.cells T 59)=W
   have HR0:Hid (W.heap[w.heap.size]?=some (.cells T 59 (0,0))):=by rw[←hW];show _=_;exact heap_alloc_new _ _
   have HB0:Hid (Below w.heap.size w W):=by rw[←hW];exact(Below.refl _ _).alloc (Nat.le_refl _) _
   have c0:W.cell? ⟨w.heap.size,0,none⟩=some (.int .i64 P):=(cell_of_row W w.heap.size _ _ _ _ HR0.out).trans h0
   clear hW
   go_wp2_with(refine wpList_skip (by rfl) ?_)
   go_ret
   exact⟨rfl,HB0.out⟩
  ·go_enter Tryz.func114,Tryz.ntmps114
   go_upto_region 1 with fail
   generalize hW:w.alloc (Obj.cells T 59)=W
   have HR0:Hid (W.heap[w.heap.size]?=some (.cells T 59 (0,0))):=by rw[←hW];show _=_;exact heap_alloc_new _ _
   have HB0:Hid (Below w.heap.size w W):=by rw[←hW];exact(Below.refl _ _).alloc (Nat.le_refl _) _
   have c0:W.cell? ⟨w.heap.size,0,none⟩=some (.int .i64 P):=(cell_of_row W w.heap.size _ _ _ _ HR0.out).trans h0
   clear hW
   go_wp2_with(refine wpList_skip (by rfl) ?_)
   go_ret
   exact⟨rfl,HB0.out⟩
theorem info3:(Tryz.prog.info? 3).map (fun i=>(i.zero,i.size,i.bytes))=some (some (.int .i64 0),1,8):=by kernel_rfl
theorem iClone_some (b o n c:Nat) (f:Nat→Int) (hn:n≤1000) (w:World) (hL:Hid (Lie w (some ⟨b,o,none⟩) n c f)):
  Calls Tryz.prog 171 #[.slice (some ⟨b,o,none⟩) n c] w fun e w'=>(∃a' c',e=.returned (.slice a' n c')∧Lie w' a' n c' f∧Far w.heap.size a')∧Below w.heap.size w w':=by
 obtain⟨i0,hi,hz0,hz1,hz2⟩:=info_parts info3
 have q22:∀(w:World) (a:Option Addr) (n c n' c':Nat),(binOp .eql 29 (.slice a n c) (.slice none n' c')).run Tryz.prog w=.ok (.bool a.isNone) w:=fun w a n c n' c'=>Lib.run_eql_slice_nil w _ _ a n c n' c' Tryz.underlying29
 go_enter Tryz.func171,Tryz.ntmps171
 go_wp2_with(at_builtin;refine wpList_append_lie _ rfl _ _ 29 rfl w.heap.size 3 i0 Tryz.underlying29 hi hz0 hz1 hz2 _ 0 f rfl (World.ownsRow_made w #[] 0 (Nat.le_refl _) (Nat.zero_le _) rfl) _ n c f rfl (hL.out.below (Nat.le_refl _) ((Below.refl _ _).alloc (Nat.le_refl _) _)) (by omega) (by simp) ?_)
 intro v' w1 hown hgrow
 go_wp2
 go_ret
 have hown':w1.ownsRow w.heap.size 3 1 v' n (row f n):=by
  rw[row_congr (f':=cat f 0 f) (fun i _=>by simp[cat]),←Nat.zero_add n]
  simpa using hown
 obtain⟨a',c',rfl,a3⟩:=lie_of_own hown' hL.out.wf
 exact⟨⟨a',c',rfl,a3⟩,((Below.refl _ w).alloc (Nat.le_refl _) _).grown hgrow (by simp) (by intro k hk;simp[Value.ownBlock]at hk;omega)⟩
theorem iGrow_nil (N:Nat) (h0:0<N) (hN:N≤1000) (w:World) (f:Nat→Int):
  Calls Tryz.prog 149 #[.slice none 0 0,.int .i64 N] w fun e w'=>(∃v',e=.returned v'∧w'.ownsRow w.heap.size 3 1 v' 0 (row f 0))∧Below w.heap.size w w':=by
 obtain⟨i0,hi,hz0,hz1,hz2⟩:=info_parts info3
 go_enter Tryz.func149,Tryz.ntmps149
 go_wp2
 all_goals have e8:Tryz.t3.bytes=8:=rfl
 all_goals have e9:Builtin.nextslicecap N 0*Tryz.t3.bytes≤281474976710656:=growslice_fits h0 (by rw[e8];omega)
 all_goals try(exfalso;first|omega|(simp only[e8]at*;omega))
 go_ret
 have hge:=grownCap_ge w N 0 3
 have hle:=grownCap_le_maxLen w N 0 3 (by unfold maxLen;omega)
 refine⟨⟨_,rfl,World.ownsRow_made w _ _ (Nat.le_refl _) hle ?_⟩,(((Below.refl _ _).alloc (Nat.le_refl _) _).drew)⟩
 simp only[Array.size_append,size_zeroCells]
 show N*1+(grownCap w N 0 3-N)*1=grownCap w N 0 3*1
 omega
theorem iConcat_two (q:Nat) (a1 a2:Option Addr) (n1 c1 n2 c2:Nat) (f1 f2:Nat→Int) (h0:0<n1+n2) (hn:n1+n2≤1000) (w:World)
  (hq:q<w.heap.size) (k0:w.cell? ⟨q,0,none⟩=some (.slice a1 n1 c1)) (k1:w.cell? ⟨q,1,none⟩=some (.slice a2 n2 c2)) (hL1:Hid (Lie w a1 n1 c1 f1)) (hL2:Hid (Lie w a2 n2 c2 f2)):
  Calls Tryz.prog 115 #[.slice (some ⟨q,0,none⟩) 2 2] w fun e w'=>(∃a' c',e=.returned (.slice a' (n1+n2) c')∧Lie w' a' (n1+n2) c' (cat f1 n1 f2)∧Far w.heap.size a')∧Below w.heap.size w w':=by
 obtain⟨i0,hi,hz0,hz1,hz2⟩:=info_parts info3
 have C:=fun w=>iGrow_nil (n1+n2) h0 hn w f1
 simp only[Int.natCast_add]at C
 go_enter Tryz.func115,Tryz.ntmps115
 go_wp2_with fail
 refine wp_loop_rounds 3 ?_
 rw[rounds_succ]
 go_wp2_with fail
 rw[rounds_succ]
 go_wp2_with fail
 rw[rounds_succ]
 go_wp2_with fail
 refine(C _).mono ?_
 rintro e W1 ⟨⟨v,rfl,hown⟩,hk⟩
 have j0:W1.cell? ⟨q,0,none⟩=some (.slice a1 n1 c1):=(hk.cell (p:=⟨q,0,none⟩) hq).trans k0
 have j1:W1.cell? ⟨q,1,none⟩=some (.slice a2 n2 c2):=(hk.cell (p:=⟨q,1,none⟩) hq).trans k1
 have HO:Hid (W1.ownsRow w.heap.size 3 1 v 0 (row f1 0)):=hown
 have HK:Hid (Below w.heap.size w W1):=hk
 clear hown hk k0 k1 C
 go_wp2_with fail
 refine wp_loop_rounds 3 ?_
 rw[rounds_succ]
 go_wp2_with(at_builtin;refine wpList_append_lie _ rfl _ _ 29 rfl w.heap.size 3 i0 Tryz.underlying29 hi hz0 hz1 hz2 _ 0 f1 rfl HO.out _ n1 c1 f1 rfl (hL1.out.below (Nat.le_refl _) HK.out) (by omega) HK.out.size ?_;intro v1 w1 hown1 hgrow1)
 have m1:w1.cell? ⟨q,1,none⟩=some (.slice a2 n2 c2):=hgrow1.cell j1 (by intro e;have h:w.heap.size≤q:=(HO.out.lt _ e.symm).1;omega)
 have HO1:Hid (w1.ownsRow w.heap.size 3 1 v1 n1 (row f1 n1)):=by
  show w1.ownsRow _ _ _ _ _ _
  rw[row_congr (f':=cat f1 0 f1) (fun i _=>by simp[cat]),←Nat.zero_add n1]
  simpa using hown1
 have HK1:Hid (Below w.heap.size w w1):=HK.out.grown hgrow1 HK.out.size (fun k hk=>(HO.out.lt k hk).1)
 clear hown1 hgrow1 HO HK j0 j1
 rw[rounds_succ]
 go_wp2_with(at_builtin;refine wpList_append_lie _ rfl _ _ 29 rfl w.heap.size 3 i0 Tryz.underlying29 hi hz0 hz1 hz2 _ n1 f1 rfl HO1.out _ n2 c2 f2 rfl (hL2.out.below (Nat.le_refl _) HK1.out) (by omega) HK1.out.size ?_;intro v2 w2 hown2 hgrow2)
 have HK2:Hid (Below w.heap.size w w2):=HK1.out.grown hgrow2 HK1.out.size (fun k hk=>(HO1.out.lt k hk).1)
 have HO2:Hid (w2.ownsRow w.heap.size 3 1 v2 (n1+n2) (row (cat f1 n1 f2) (n1+n2))):=hown2
 clear hown2 hgrow2
 rw[rounds_succ]
 go_wp2_with fail
 go_ret
 obtain⟨a',c',rfl,a3⟩:=lie_of_own HO2.out (fun i hi=>by
  unfold cat
  split
  ·exact hL1.out.wf i (by omega)
  ·exact hL2.out.wf _ (by omega))
 exact⟨⟨a',c',rfl,a3⟩,HK2.out⟩
end Go.Proofs.YtpiohehijkpghacGreatDoor.Re
