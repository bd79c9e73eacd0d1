/- Pop: the program. -/
import Derived.Shelf.Abstract
import Derived.Test.YtpiohehijkpghacGreatDoorD07
open Array renaming getElem?_eq_some_iff->Ad,getElem?_modify->Al,getElem?_eq_none->Au
open Go renaming cell_of_row->Ab,bodyPost_ret->Ae,rounds_succ->Af,wpList_store_row->Ag,frozen_of_row->Ah,run_loadVar_row->Ai,setRow_other->Ak,info_parts->Am,wp_loop_rounds->Ao,setRow_heap->Ap,heap_alloc2_old->Av,heap_alloc2_new->Aw
open Go.Code renaming wp->AC
open Go.Instr renaming makeFunc->Az
open Go.RowKit.Below renaming refl->Ac
open Go.WalkArith renaming wf_i64->Ar
open Go.World renaming ownsRow_nil->Aq,block_lt_of_cell?->As,setCell->Ax,ownsRow_made->Ay,ownsRow->AB
open List renaming length_drop->At
open Nat renaming le_refl->Aa,lt_of_lt_of_le->An,add_assoc->AA,zero_le->AD
open Option.some renaming inj->Aj
set_option maxHeartbeats 1000000
set_option maxRecDepth 20000
set_option linter.unusedVariables false
open Go.Proofs.Tryz
namespace Go.Proofs.YtpiohehijkpghacGreatDoor.Re
open Go.RowKit Go.Maps
open Re.Hy
theorem zy{w:World}{b i:Nat}{cs:Array Value}{t:TypeId}{fr:Nat×Nat}{v:Value}(h:w.heap[b]?=some (.cells cs t fr)):(w.setCell ⟨b,i,none⟩ v).heap[b]?=some (.cells (cs.setIfInBounds i v) t fr):=by
 simp[Ax,Al,h]
theorem zh{w:World}{b g i:Nat}{o:Obj}{v:Value}(h:w.heap[g]?=some o)(hne:b≠g):(w.setCell ⟨b,i,none⟩ v).heap[g]?=some o:=by
 simp[Ax,Al,h,hne]
theorem zA{w:World}{b g i:Nat}(v:Value)(h:g≠b):(w.setCell ⟨b,i,none⟩ v).heap[g]?=w.heap[g]?:=by
 simp[Ax,Al,Ne.symm h]
theorem zc{B:Nat}{a w:World}(h:Below B a w){g:Nat}(hg:B<=g)(cs:Array Value):Below B a (w.setRow g cs):=
 ⟨h.os,h.tape,h.output,by simpa using h.size,fun k hk=>(Ak _ _ _ _ (by omega)).trans (h.block k hk)⟩
theorem zb{P:Program}{ops:Array Oper}{S:World->Prop}{op:Oper}{a:Act}(hw:Region.wanted op (yielded ops a.tmps)=true)(ty:TypeId)(x:Operand)(ho:op.op=.load ty x)
  (g:Nat) (hx:a.eval x=.pointer (some ⟨g,0,none⟩)) (t:TypeId) (cs:Array Value) (fr:Nat×Nat) (d:TypeDesc) (hS:∀w,S w->w.heap[g]?=some (.cells cs t fr))
  (hu:P.underlying ty=some d) (hd:(match d with|.struct _|.array _ _=>true|_=>false)=true) (hi:(P.info? ty).map (·.size)=some cs.size):YieldsIf P ops S op (.agg cs) a:=
 .inl ⟨hw,fun w hw'=>by
  unfold execOp
  simp only[ho,hx,Instr.loadAt,Instr.sureAddr,Sem.run_bind,Sem.run_pure,Result.andThen_ok,Ai w g t ty cs fr d (hS w hw') hu hd hi]⟩
theorem zaS{Φ:World->Prop}{w:World}{A B:Obj}(h:∀W:World,W.heap[w.heap.size]?=some A->W.heap[w.heap.size+1]?=some B->Below w.heap.size w W->w.heap.size+2<=W.heap.size->Φ W):Φ ((w.alloc A).alloc B):=
 h _ (Av _ _ _) (Aw _ _ _) (((Ac _ _).alloc (Aa _) _).alloc (by simp) _) (by simp)
abbrev zm:Array Value:=mcs 0 (fun _=>0) (.slice none 0 0)
theorem zaT:zm.size=34:=rfl
theorem xp(P:Int)(r:Nat->Int)(a:Option Addr)(n c:Nat):(mcs P r (.slice a n c)).all (·.oneCell')=true:=by simp[Value.oneCell']
theorem zgB(T:Array Value)(P:Int)(r f:Nat->Int)(a:Option Addr)(n c:Nat)(hT:Hid (T=mcs P r (.slice a n c)))(hm:Hid (MayBe P n r f))
  (h0:T[0]?=some (.int .i64 P)) (hF:T[33]?=some (.slice a n c)) (hR:Hid (Rg r)) (k:Nat) (k0:1<=k) (k1:k<32) (hn:0<n) (w:World) (hL:Hid (Lie w a n c f)):
  Calls prog 137 #[.agg T,.int .i64 k] w fun e w'=>(∃a' c',e=.returned (.tuple #[.agg (mcs P (up r k (f 0)) (.slice a' (n-1) c')),.int .i64 (f 0),.int .i64 (r k),.bool true])/\Lie w' a' (n-1) c' (tl f)/\Far w.heap.size a')/\Below w.heap.size w w':=by
 have hn64:=hm.out.few.2
 have C1:=fun w=>zaR T P r f a n c true hT ⟨fun _=>hm.out,fun _=>rfl⟩ h0 hF hR (by omega) w
 have C2:=zan (k:Int)
 rw[decide_eq_true (⟨by omega,by omega⟩:(1:Int)<=k/\(k:Int)<32)]at C2
 obtain⟨b,o,rfl,hb,hc⟩:=hL.out.sure hn
 have hcR:T[1+k]?=some (.int .i64 (r k)):=by rw[hT.out];exact ze0 _ _ _ _ k1
 have HI:Hid ((prog.info? 59).map (·.size)=some T.size):=qD hT.out
 go_enter func137,ntmps137
 go_upto_region 1 with fail
 refine zaS (Φ:=fun W=>AC _ _ _ _ W) ?_
 intro W HR' HZ' HB' hs0
 have HR:Hid (W.heap[w.heap.size]?=some (.cells T 59 (0,0))):=HR'
 have HB:Hid (Below w.heap.size w W):=HB'
 obtain⟨Z,hZ,HZ⟩:∃Z:Array Value,Hid (Z.size=34)/\Hid (W.heap[w.heap.size+1]?=some (.cells Z 59 (0,0))):=⟨zm,zaT,HZ'⟩
 clear HR' HZ' HB'
 go_wp2_with(refine zo (by rfl) 59 _ rfl _ rfl 59 _ (0,0) _ HR.out underlying59 rfl HI.out ?_)
 refine(C1 _ (hL.out.below (Aa _) HB.out)).mono ?_
 rintro e W1 ⟨rfl,hk⟩
 have HR1:Hid (W1.heap[w.heap.size]?=some (.cells T 59 (0,0))):=(hk.block _ (zk HR.out)).trans HR.out
 have HZ1:Hid (W1.heap[w.heap.size+1]?=some (.cells Z 59 (0,0))):=(hk.block _ (zk HZ.out)).trans HZ.out
 have HB1:Hid (Below w.heap.size w W1):=HB.out.trans (hk.mono HB.out.size)
 have hs1:w.heap.size+1<W1.heap.size:=zk HZ1.out
 clear hk HR HZ HB hs0 C1
 go_wp2_with fail
 refine(C2 _).mono ?_
 rintro e w' ⟨rfl,rfl⟩
 have c33:w'.cell? ⟨w.heap.size,33,none⟩=some (.slice (some ⟨b,o,none⟩) n c):=(Ab _ w.heap.size _ _ _ _ HR1.out).trans hF
 have cR:w'.cell? ⟨w.heap.size,1+k,none⟩=some (.int .i64 (r k)):=(Ab _ w.heap.size _ _ _ _ HR1.out).trans hcR
 have cF:w'.cell? ⟨b,o,none⟩=some (.int .i64 (f 0)):=(HB1.out.cell (p:=⟨b,o,none⟩) hb).trans (hc 0 hn)
 have hf:∀j,w'.frozen? ⟨w.heap.size,j,none⟩=false:=fun j=>Ah _ _ j _ _ HR1.out
 clear hc C2
 go_wp2_with fail
 go_region
 go_wp2_with fail
 case inl=>
  have hc1:c=1:=by first|assumption|omega
  subst hc1
  have HB2:Hid (Below w.heap.size w ((w'.setCell ⟨w.heap.size,1+k,none⟩ (.int .i64 (f 0))).drew)):=(HB1.out.setCell (Aa _) _).drew
  have HR2:Hid (((w'.setCell ⟨w.heap.size,1+k,none⟩ (.int .i64 (f 0))).drew).heap[w.heap.size]?=some (.cells (T.setIfInBounds (1+k) (.int .i64 (f 0))) 59 (0,0))):=zy HR1.out
  have HZ2:Hid (((w'.setCell ⟨w.heap.size,1+k,none⟩ (.int .i64 (f 0))).drew).heap[w.heap.size+1]?=some (.cells Z 59 (0,0))):=zh HZ1.out (by omega)
  clear HR1 HZ1 c33 cR cF hf HB1 hs1
  generalize (w'.setCell ⟨w.heap.size,1+k,none⟩ (.int .i64 (f 0))).drew=W2 at*
  have hl2:Hid (Lie W2 (some ⟨b,o,none⟩) (n-1) 0 (tl f)):=⟨by have:=hL.out.le;omega,by unfold maxLen;omega,fun h=>(nomatch h),fun i hi=>absurd hi (by have:=hL.out.le;omega),fun x hx _=>⟨b,o,(Aj hx).symm,fun i hi=>absurd hi (by have:=hL.out.le;omega)⟩⟩
  refine(vk b (o) (n-1) (0) (tl f) (by omega) _ hl2).mono ?_
  rintro e W3 ⟨⟨a',c',rfl,hl,hfar⟩,hk⟩
  have HL3:Hid (Lie W3 a' (n-1) c' (tl f)):=hl
  have HA3:Hid (Far (w.heap.size+2) a'):=hfar.mono (by have:=zk HZ2.out;omega)
  have HR3:Hid (W3.heap[w.heap.size]?=some (.cells (T.setIfInBounds (1+k) (.int .i64 (f 0))) 59 (0,0))):=(hk.block _ (zk HR2.out)).trans HR2.out
  have HZ3:Hid (W3.heap[w.heap.size+1]?=some (.cells Z 59 (0,0))):=(hk.block _ (zk HZ2.out)).trans HZ2.out
  have HB3:Hid (Below w.heap.size w W3):=HB2.out.trans (hk.mono HB2.out.size)
  have hs3:w.heap.size+1<W3.heap.size:=zk HZ3.out
  clear hk hl hfar HR2 HZ2 HB2 hl2
  obtain⟨M,hM⟩:∃M,Hid (M=mcs P (up r k (f 0)) (.slice a' (n-1) c')):=⟨_,rfl⟩
  have eM:(T.setIfInBounds (1+k) (.int .i64 (f 0))).setIfInBounds 33 (.slice a' (n-1) c')=M:=by rw[hM.out,hT.out,ze1 _ _ _ _ _ k1,zgx]
  have c33:W3.cell? ⟨w.heap.size,33,none⟩=some (.slice (some ⟨b,o,none⟩) n 1):=(Ab _ w.heap.size _ _ _ _ HR3.out).trans (by rw[hT.out,ze1 _ _ _ _ _ k1];rfl)
  have hf:∀j,W3.frozen? ⟨w.heap.size,j,none⟩=false:=fun j=>Ah _ _ j _ _ HR3.out
  have HR4:Hid ((W3.setCell ⟨w.heap.size,33,none⟩ (.slice a' (n-1) c')).heap[w.heap.size]?=some (.cells M 59 (0,0))):=by rw[<-eM];exact zy HR3.out
  have HZ4:Hid ((W3.setCell ⟨w.heap.size,33,none⟩ (.slice a' (n-1) c')).heap[w.heap.size+1]?=some (.cells Z 59 (0,0))):=zh HZ3.out (by omega)
  have HB4:Hid (Below w.heap.size w (W3.setCell ⟨w.heap.size,33,none⟩ (.slice a' (n-1) c'))):=HB3.out.setCell (Aa _) _
  have MI:Hid ((prog.info? 59).map (·.size)=some M.size):=qD hM.out
  have MO:Hid (M.all (·.oneCell')=true):=by show _=_;rw[hM.out];exact xp _ _ _ _ _
  have MZ:Hid (Z.size=M.size):=by show _=_;rw[hM.out,hZ.out];rfl
  clear eM HR3 HZ3 HB3
  go_wp2_with(first|(refine zo (by rfl) 59 _ rfl _ rfl 59 _ (0,0) _ HR4.out underlying59 rfl MI.out ?_)|(refine Ag rfl 59 _ _ rfl _ _ rfl rfl 59 _ HZ4.out MI.out MZ.out MO.out ?_))
  refine Ae (v:=.tuple #[.agg M,.int .i64 (f 0),.int .i64 (r k),.bool true]) ?_ rfl ⟨⟨a',c',by rw[hM.out],?_,HA3.out.mono (by omega)⟩,?_⟩
  ·have L2:=Ai (P:=prog) _ _ 59 59 M (0,0) _ (Ap _ _ _ _ _ _ HZ4.out) underlying59 rfl MI.out
   simp[results,results137,asAddr,L2]
  ·refine HL3.out.moved fun x hx=>?_
   have:=HA3.out x hx
   rw[Ak _ _ _ _ (by omega)]
   exact zA _ (by omega)
  ·exact zc HB4.out (by omega) _
 case inr=>
  have HB2:Hid (Below w.heap.size w ((w'.setCell ⟨w.heap.size,1+k,none⟩ (.int .i64 (f 0))).drew)):=(HB1.out.setCell (Aa _) _).drew
  have HR2:Hid (((w'.setCell ⟨w.heap.size,1+k,none⟩ (.int .i64 (f 0))).drew).heap[w.heap.size]?=some (.cells (T.setIfInBounds (1+k) (.int .i64 (f 0))) 59 (0,0))):=zy HR1.out
  have HZ2:Hid (((w'.setCell ⟨w.heap.size,1+k,none⟩ (.int .i64 (f 0))).drew).heap[w.heap.size+1]?=some (.cells Z 59 (0,0))):=zh HZ1.out (by omega)
  clear HR1 HZ1 c33 cR cF hf HB1 hs1
  generalize (w'.setCell ⟨w.heap.size,1+k,none⟩ (.int .i64 (f 0))).drew=W2 at*
  have hl2:Hid (Lie W2 (some ⟨b,o+1,none⟩) (n-1) (c-1) (tl f)):=by
   have hl1:=hL.out.below (Aa _) HB2.out
   refine⟨by have:=hl1.le;omega,by have:=hl1.top;omega,fun h=>(nomatch h),fun i hi=>hl1.wf (i+1) (by omega),fun x hx _=>⟨b,o+1,(Aj hx).symm,fun i hi=>?_⟩⟩
   obtain⟨b',o',e,hc⟩:=hl1.ad _ rfl hn
   cases e
   have:=hc (i+1) (by omega)
   rw[show o+1+i=o+(i+1) by omega]
   exact this
  refine(vk b (o+1) (n-1) (c-1) (tl f) (by omega) _ hl2).mono ?_
  rintro e W3 ⟨⟨a',c',rfl,hl,hfar⟩,hk⟩
  have HL3:Hid (Lie W3 a' (n-1) c' (tl f)):=hl
  have HA3:Hid (Far (w.heap.size+2) a'):=hfar.mono (by have:=zk HZ2.out;omega)
  have HR3:Hid (W3.heap[w.heap.size]?=some (.cells (T.setIfInBounds (1+k) (.int .i64 (f 0))) 59 (0,0))):=(hk.block _ (zk HR2.out)).trans HR2.out
  have HZ3:Hid (W3.heap[w.heap.size+1]?=some (.cells Z 59 (0,0))):=(hk.block _ (zk HZ2.out)).trans HZ2.out
  have HB3:Hid (Below w.heap.size w W3):=HB2.out.trans (hk.mono HB2.out.size)
  have hs3:w.heap.size+1<W3.heap.size:=zk HZ3.out
  clear hk hl hfar HR2 HZ2 HB2 hl2
  obtain⟨M,hM⟩:∃M,Hid (M=mcs P (up r k (f 0)) (.slice a' (n-1) c')):=⟨_,rfl⟩
  have eM:(T.setIfInBounds (1+k) (.int .i64 (f 0))).setIfInBounds 33 (.slice a' (n-1) c')=M:=by rw[hM.out,hT.out,ze1 _ _ _ _ _ k1,zgx]
  have c33:W3.cell? ⟨w.heap.size,33,none⟩=some (.slice (some ⟨b,o,none⟩) n c):=(Ab _ w.heap.size _ _ _ _ HR3.out).trans (by rw[hT.out,ze1 _ _ _ _ _ k1];rfl)
  have hf:∀j,W3.frozen? ⟨w.heap.size,j,none⟩=false:=fun j=>Ah _ _ j _ _ HR3.out
  have HR4:Hid ((W3.setCell ⟨w.heap.size,33,none⟩ (.slice a' (n-1) c')).heap[w.heap.size]?=some (.cells M 59 (0,0))):=by rw[<-eM];exact zy HR3.out
  have HZ4:Hid ((W3.setCell ⟨w.heap.size,33,none⟩ (.slice a' (n-1) c')).heap[w.heap.size+1]?=some (.cells Z 59 (0,0))):=zh HZ3.out (by omega)
  have HB4:Hid (Below w.heap.size w (W3.setCell ⟨w.heap.size,33,none⟩ (.slice a' (n-1) c'))):=HB3.out.setCell (Aa _) _
  have MI:Hid ((prog.info? 59).map (·.size)=some M.size):=qD hM.out
  have MO:Hid (M.all (·.oneCell')=true):=by show _=_;rw[hM.out];exact xp _ _ _ _ _
  have MZ:Hid (Z.size=M.size):=by show _=_;rw[hM.out,hZ.out];rfl
  clear eM HR3 HZ3 HB3
  go_wp2_with(first|(refine zo (by rfl) 59 _ rfl _ rfl 59 _ (0,0) _ HR4.out underlying59 rfl MI.out ?_)|(refine Ag rfl 59 _ _ rfl _ _ rfl rfl 59 _ HZ4.out MI.out MZ.out MO.out ?_))
  refine Ae (v:=.tuple #[.agg M,.int .i64 (f 0),.int .i64 (r k),.bool true]) ?_ rfl ⟨⟨a',c',by rw[hM.out],?_,HA3.out.mono (by omega)⟩,?_⟩
  ·have L2:=Ai (P:=prog) _ _ 59 59 M (0,0) _ (Ap _ _ _ _ _ _ HZ4.out) underlying59 rfl MI.out
   simp[results,results137,asAddr,L2]
  ·refine HL3.out.moved fun x hx=>?_
   have:=HA3.out x hx
   rw[Ak _ _ _ _ (by omega)]
   exact zA _ (by omega)
  ·exact zc HB4.out (by omega) _
theorem Hid.mk'{p:Prop}(h:p):Hid p:=h
theorem znd(w:World)(a b:Obj):(((w.alloc a).alloc b).drew).heap[w.heap.size]?=some a:=Av _ _ _
theorem zne(w:World)(a b:Obj):(((w.alloc a).alloc b).drew).heap[w.heap.size+1]?=some b:=Aw _ _ _
theorem znf(w:World)(a b:Obj):Below w.heap.size w (((w.alloc a).alloc b).drew):=(((Ac _ _).alloc (Aa _) _).alloc (by simp) _).drew
theorem zng(w:World)(a b:Obj):w.heap.size+2<=(((w.alloc a).alloc b).drew).heap.size:=by
 show _<=((w.alloc a).alloc b).heap.size
 simp
theorem zgC(T:Array Value)(P:Int)(r f:Nat->Int)(a:Option Addr)(n c:Nat)(hT:Hid (T=mcs P r (.slice a n c)))(hm:Hid (MayBe P n r f))
  (h0:T[0]?=some (.int .i64 P)) (hF:T[33]?=some (.slice a n c)) (hR:Hid (Rg r)) (x:Int) (hx:Hid (Idle P n r f x)) (w:World) (hL:Hid (Lie w a n c f)):
  Calls prog 79 #[.agg T,.int .i64 x] w fun e w'=>(∃a' c',e=.returned (.tuple #[.agg (mcs P r (.slice a' (n+1) c')),.bool true])/\Lie w' a' (n+1) c' (en f n x)/\Far w.heap.size a')/\Below w.heap.size w w':=by
 have hn64:=hm.out.few.2
 have C1:=fun w=>zaR T P r f a n c true hT ⟨fun _=>hm.out,fun _=>rfl⟩ h0 hF hR (by omega) w
 have C3:=fun w=>zbJ T P r f a n c x true hT ⟨fun _=>hx.out,fun _=>rfl⟩ h0 hF hR hn64 hm.out.high w
 have HI:Hid ((prog.info? 59).map (·.size)=some T.size):=qD hT.out
 go_enter func79,ntmps79
 go_upto_region 1 with fail
 refine zaS (Φ:=fun W=>AC _ _ _ _ W) ?_
 intro W0 HR' HZ' HB' hs0
 have HR0:Hid (W0.heap[w.heap.size]?=some (.cells T 59 (0,0))):=HR'
 have HB0:Hid (Below w.heap.size w W0):=HB'
 obtain⟨Z,hZ,HZ0⟩:∃Z:Array Value,Hid (Z.size=34)/\Hid (W0.heap[w.heap.size+1]?=some (.cells Z 59 (0,0))):=⟨zm,zaT,HZ'⟩
 clear HR' HZ' HB'
 go_wp2_with(refine zo (by rfl) 59 _ rfl _ rfl 59 _ (0,0) _ HR0.out underlying59 rfl HI.out ?_)
 refine(C1 _ (hL.out.below (Aa _) HB0.out)).mono ?_
 rintro e W1 ⟨rfl,hk⟩
 have HR1:Hid (W1.heap[w.heap.size]?=some (.cells T 59 (0,0))):=(hk.block _ (zk HR0.out)).trans HR0.out
 have HZ1:Hid (W1.heap[w.heap.size+1]?=some (.cells Z 59 (0,0))):=(hk.block _ (zk HZ0.out)).trans HZ0.out
 have HB1:Hid (Below w.heap.size w W1):=HB0.out.trans (hk.mono HB0.out.size)
 have hs1:w.heap.size+1<W1.heap.size:=zk HZ1.out
 clear hk HR0 HZ0 HB0 hs0
 go_wp2_with(refine zo (by rfl) 59 _ rfl _ rfl 59 _ (0,0) _ HR1.out underlying59 rfl HI.out ?_)
 refine(C3 _ (hL.out.below (Aa _) HB1.out)).mono ?_
 rintro e W2 ⟨rfl,hk⟩
 have HR2:Hid (W2.heap[w.heap.size]?=some (.cells T 59 (0,0))):=(hk.block _ (zk HR1.out)).trans HR1.out
 have HZ2:Hid (W2.heap[w.heap.size+1]?=some (.cells Z 59 (0,0))):=(hk.block _ (zk HZ1.out)).trans HZ1.out
 have HB2:Hid (Below w.heap.size w W2):=HB1.out.trans (hk.mono HB1.out.size)
 have hs2:w.heap.size+1<W2.heap.size:=zk HZ2.out
 clear hk HR1 HZ1 HB1 hs1
 have c33:W2.cell? ⟨w.heap.size,33,none⟩=some (.slice a n c):=(Ab _ w.heap.size _ _ _ _ HR2.out).trans hF
 go_wp2_with fail
 refine zaS (w:=W2) (Φ:=fun W=>Calls _ _ _ W _) ?_
 intro W3 ha hb3 hk hs3
 have l1:Hid (Lie W3 a n c f):=hL.out.below (Aa _) (HB2.out.trans (hk.mono HB2.out.size))
 have l2:Hid (Lie W3 (some ⟨W2.heap.size,0,none⟩) 1 1 (fun _=>x)):=by
  refine⟨Aa _,by unfold maxLen;omega,fun h=>(nomatch h),fun i hi=>Ar (by have:=hx.out.lo;have:=hx.out.hi;have:=hm.out.high;omega),fun y hy _=>⟨W2.heap.size,0,(Aj hy).symm,fun i hi=>?_⟩⟩
  obtain rfl:i=0:=by omega
  rw[Ab _ _ _ _ _ _ ha]
  rfl
 have e0:W3.cell? ⟨W2.heap.size+1,0,none⟩=some (.slice a n c):=by rw[Ab _ _ _ _ _ _ hb3];rfl
 have e1:W3.cell? ⟨W2.heap.size+1,1,none⟩=some (.slice (some ⟨W2.heap.size,0,none⟩) 1 1):=by rw[Ab _ _ _ _ _ _ hb3];rfl
 refine(vl (W2.heap.size+1) a (some ⟨W2.heap.size,0,none⟩) n c 1 1 f (fun _=>x) (by omega) (by omega) W3 (by omega) e0 e1 l1 l2).mono ?_
 rintro e W4 ⟨⟨a',c',rfl,hl,hfar⟩,hk4⟩
 have HL4:Hid (Lie W4 a' (n+1) c' (cat f n (fun _=>x))):=hl
 have HA4:Hid (Far (w.heap.size+2) a'):=hfar.mono (by omega)
 clear hl hfar l1 l2 e0 e1 ha hb3 c33
 have HR3:Hid (W3.heap[w.heap.size]?=some (.cells T 59 (0,0))):=(hk.block _ (zk HR2.out)).trans HR2.out
 have HZ3:Hid (W3.heap[w.heap.size+1]?=some (.cells Z 59 (0,0))):=(hk.block _ (zk HZ2.out)).trans HZ2.out
 have HB3:Hid (Below w.heap.size w W3):=HB2.out.trans (hk.mono HB2.out.size)
 have hs3b:w.heap.size+1<W3.heap.size:=zk HZ3.out
 clear hk HR2 HZ2 HB2 hs2 hs3b
 have HR4:Hid (W4.heap[w.heap.size]?=some (.cells T 59 (0,0))):=(hk4.block _ (zk HR3.out)).trans HR3.out
 have HZ4:Hid (W4.heap[w.heap.size+1]?=some (.cells Z 59 (0,0))):=(hk4.block _ (zk HZ3.out)).trans HZ3.out
 have HB4:Hid (Below w.heap.size w W4):=HB3.out.trans (hk4.mono HB3.out.size)
 have hs4:w.heap.size+1<W4.heap.size:=zk HZ4.out
 clear hk4 HR3 HZ3 HB3 hs3
 obtain⟨M,hM⟩:∃M,Hid (M=mcs P r (.slice a' (n+1) c')):=⟨_,rfl⟩
 have eM:T.setIfInBounds 33 (.slice a' (n+1) c')=M:=by rw[hM.out,hT.out,zgx]
 have c33:W4.cell? ⟨w.heap.size,33,none⟩=some (.slice a n c):=(Ab _ w.heap.size _ _ _ _ HR4.out).trans hF
 have hf:∀j,W4.frozen? ⟨w.heap.size,j,none⟩=false:=fun j=>Ah _ _ j _ _ HR4.out
 have HR5:Hid ((W4.setCell ⟨w.heap.size,33,none⟩ (.slice a' (n+1) c')).heap[w.heap.size]?=some (.cells M 59 (0,0))):=by rw[<-eM];exact(zy HR4.out)
 have HZ5:Hid ((W4.setCell ⟨w.heap.size,33,none⟩ (.slice a' (n+1) c')).heap[w.heap.size+1]?=some (.cells Z 59 (0,0))):=(zh HZ4.out (by omega))
 have HB5:Hid (Below w.heap.size w (W4.setCell ⟨w.heap.size,33,none⟩ (.slice a' (n+1) c'))):=(HB4.out.setCell (Aa _) _)
 have MI:Hid ((prog.info? 59).map (·.size)=some M.size):=qD hM.out
 have MO:Hid (M.all (·.oneCell')=true):=by show _=_;rw[hM.out];exact xp _ _ _ _ _
 have MZ:Hid (Z.size=M.size):=by show _=_;rw[hM.out,hZ.out];rfl
 clear eM HR4 HZ4 HB4
 go_wp2_with(first|(refine zo (by rfl) 59 _ rfl _ rfl 59 _ (0,0) _ HR5.out underlying59 rfl MI.out ?_)|(refine Ag rfl 59 _ _ rfl _ _ rfl rfl 59 _ HZ5.out MI.out MZ.out MO.out ?_))
 refine Ae (v:=.tuple #[.agg M,.bool true]) ?_ rfl ⟨⟨a',c',by rw[hM.out],?_,HA4.out.mono (by omega)⟩,?_⟩
 ·have L2:=Ai (P:=prog) _ _ 59 59 M (0,0) _ (Ap _ _ _ _ _ _ HZ5.out) underlying59 rfl MI.out
  simp[results,results79,asAddr,L2]
 ·refine HL4.out.moved fun y hy=>?_
  have:=HA4.out y hy
  rw[Ak _ _ _ _ (by omega)]
  exact zA _ (by omega)
 ·exact zc HB5.out (by omega) _
def rg(k i:Nat):Int:=if i<k then i else 0
theorem zk7(k:Nat):up (rg k) k k=rg (k+1):=by
 funext i
 unfold up rg
 by_cases h:i=k
 ·subst h;simp
 ·rw[if_neg h]
  by_cases h2:i<k
  ·rw[if_pos h2,if_pos (by omega)]
  ·rw[if_neg h2,if_neg (by omega)]
theorem zgD{P:Int}{r r':Nat->Int}{v:Value}(h:∀i,i<32->r i=r' i):mcs P r v=mcs P r' v:=by
 apply Array.ext_getElem?
 intro i
 by_cases h0:i=0
 ·subst h0;rfl
 ·by_cases h1:i<33
  ·rw[show i=1+(i-1) by omega,ze0 _ _ _ _ (by omega),ze0 _ _ _ _ (by omega),h _ (by omega)]
  ·by_cases h2:i=33
   ·subst h2;rfl
   ·rw[Au (by rw[zd5];omega),Au (by rw[zd5];omega)]
theorem qS{P:Program}{ops:Array Oper}{rest:List Oper}{o:Oper}{a:Act}{W:World}{Q:Exit->Act->World->Prop}(hgd:o.guard=none)(ty:TypeId)(x y:Operand)(ho:o.op=.store ty x y)
  (cells:Array Value) (t:TypeId) (old:Array Value) (hx:a.eval x=.pointer (some ⟨W.heap.size,0,none⟩)) (hy:a.eval y=.agg cells)
  (hi:(P.info? ty).map (·.size)=some cells.size) (hold:old.size=cells.size) (h1:cells.all (·.oneCell')=true)
  (h:∀V:World,V.heap[W.heap.size]?=some (.cells cells t (0,0))->Below W.heap.size W V->wpList P ops Q rest (a.put o.dst undef) V):wpList P ops Q (o::rest) a (W.alloc (.cells old t (0,0))):=
 Ag hgd ty x y ho W.heap.size cells hx hy t old (heap_alloc_new _ _) hi hold h1 (h _ (Ap _ _ _ _ _ _ (heap_alloc_new _ _)) (zc ((Ac _ _).alloc (Aa _) _) (Aa _) _))
theorem qE{w w':World}{base:Nat}{e:TypeId}{size:Nat}{v:Value}{n:Nat}{xs:List Value}(h:w.ownsRow base e size v n xs)(hb:∀g,v.ownBlock=some g->w'.heap[g]?=w.heap[g]?):w'.ownsRow base e size v n xs:=by
 obtain⟨h1,h2⟩:=h
 refine⟨h1,?_⟩
 rcases h2 with h2|⟨g,cap,cur,hv,hg,hh,r⟩
 ·exact .inl h2
 ·exact .inr ⟨g,cap,cur,hv,hg,(hb g (by rw[hv];rfl)).trans hh,r⟩
theorem je{w:World}{base:Nat}{e:TypeId}{size:Nat}{v:Value}{n:Nat}{xs:List Value}(h:w.ownsRow base e size v n xs):∃lp lc,v=.slice lp n lc:=by
 rcases h.2 with⟨hv,rfl⟩|⟨g,cap,cur,hv,_⟩
 ·exact⟨_,_,hv⟩
 ·exact⟨_,_,hv⟩
theorem zk8(w:World)(x:Int)(hx:(Lit.int .i64 x).wf=true):Lie (w.alloc (.cells #[.int .i64 x] 3)) (some ⟨w.heap.size,0,none⟩) 1 1 (fun _=>x):=by
 refine⟨Aa _,by unfold maxLen;omega,fun h=>(nomatch h),fun i hi=>hx,fun y hy _=>⟨w.heap.size,0,(Aj hy).symm,fun i hi=>?_⟩⟩
 obtain rfl:i=0:=by omega
 rw[Ab _ _ _ _ _ _ (heap_alloc_new _ _)]
 rfl
theorem zgE{w1 w2:World}{o A:Obj}{g e n:Nat}{v:Value}{xs:List Value}(h:w1.heap[g]?=some A)(hown:w1.ownsRow (g+1) e 1 v n xs)(hg:(w1.alloc o).grownBy w2 v.ownBlock):w2.heap[g]?=some A:=by
 have hlt:=zk h
 rw[hg.block g (by simp;omega) (by intro e;have:=(hown.lt g e.symm).1;omega),heap_alloc_old _ _ hlt]
 exact h
theorem zk9{Φ:World->Prop}{w:World}{A:Obj}(h:∀W:World,W.heap[w.heap.size]?=some A->Below w.heap.size w W->W.heap.size=w.heap.size+1->Φ W):Φ (w.alloc A):=
 h _ (heap_alloc_new _ _) ((Ac _ _).alloc (Aa _) _) (by simp)
theorem ziV(P:Int)(p0:33<=P)(p1:P<=96)(w:World):
  Calls prog 28 #[.int .i64 P] w fun e w'=>(∃a' c',e=.returned (.tuple #[.agg (mcs P (rg P.toNat) (.slice a' (P.toNat-32) c')),.int .i64 0])/\Lie w' a' (P.toNat-32) c' (fun i=>32+i)/\Far w.heap.size a')/\Below w.heap.size w w':=by
 have C1:=vi P
 rw[decide_eq_true ⟨p0,p1⟩]at C1
 obtain⟨i0,hi,hz0,hz1,hz2⟩:=Am ziU
 go_enter func28,ntmps28
 go_upto_region 1 with fail
 refine zk9 (Φ:=fun W=>AC _ _ _ _ W) ?_
 intro W HZ' HB' hs0
 have HB:Hid (Below w.heap.size w W):=HB'
 obtain⟨Z,hZ,HZ⟩:∃Z:Array Value,Hid (Z.size=34)/\Hid (W.heap[w.heap.size]?=some (.cells Z 59 (0,0))):=⟨zm,zaT,HZ'⟩
 have HS:Hid (W.heap.size=w.heap.size+1):=hs0
 clear HZ' HB' hs0
 go_wp2_with fail
 refine(C1 _).mono ?_
 rintro e w' ⟨rfl,rfl⟩
 go_upto_region 3 with fail
 go_upto_region 4 with(refine qS rfl 59 _ _ rfl (mcs P (rg 0) (.slice none 0 0)) _ _ rfl rfl (qD rfl) rfl (xp _ _ _ _ _) ?_;intro V ha hk)
 have HM:Hid (V.heap[w.heap.size+1]?=some (.cells (mcs P (rg 0) (.slice none 0 0)) 59 (0,0))):=by rw[<-HS.out];exact ha
 have HZ1:Hid (V.heap[w.heap.size]?=some (.cells Z 59 (0,0))):=(hk.block _ (zk HZ.out)).trans HZ.out
 have HB1:Hid (Below w.heap.size w V):=HB.out.trans (hk.mono HB.out.size)
 have hs1:w.heap.size+2<=V.heap.size:=zk HM.out
 rw[HS.out]
 clear ha hk HZ HB HS
 go_wp2_with fail
 generalize Value.agg _=XX
 go_loopw [13] (fun i wr=>∃k:Nat,∃v:Value,k<=P.toNat/\i=.int .i64 k/\Hid (wr.heap[w.heap.size+1]?=some (.cells (mcs P (rg k) v) 59 (0,0)))/\Hid (wr.ownsRow (w.heap.size+2) 3 1 v (k-32) (row (fun i=>32+i) (k-32)))/\Hid (wr.heap[w.heap.size]?=some (.cells Z 59 (0,0)))/\Hid (Below w.heap.size w wr)/\w.heap.size+2<=wr.heap.size)
  (fun i _=>P.toNat-(intOf i).toNat)
 case atStart=>exact⟨0,_,by omega,rfl,HM,Aq _ _ _ _,HZ1,HB1,hs1⟩
 case round=>
  obtain⟨k,v,hk,rfl,HM,HO,HZ,HB,hs⟩:=hrel
  by_cases hlt:k<P.toNat
  ·have hlt':(k:Int)<P:=by omega
   by_cases h32:k<32
   ·have h32':(k:Int)<32:=by omega
    have ck:wr.cell? ⟨w.heap.size+1,1+k,none⟩=some (.int .i64 (rg k k)):=(Ab _ _ _ _ _ _ HM.out).trans (ze0 _ _ _ _ h32)
    have hf:∀j,wr.frozen? ⟨w.heap.size+1,j,none⟩=false:=fun j=>Ah _ _ j _ _ HM.out
    go_wp2_with fail
    refine⟨⟨k+1,v,by omega,by go_num,?_,?_,?_,?_,?_⟩,by simp[intOf];omega⟩
    ·rw[<-zk7 k,<-ze1 P (rg k) v k k h32];exact zy HM.out
    ·rw[show k+1-32=k-32 by omega]
     exact qE HO.out fun g hg=>zA (b:=w.heap.size+1) _ (by have:=(HO.out.lt g hg).1;omega)
    ·exact zh HZ.out (by omega)
    ·exact HB.out.setCell (Nat.le_succ _) _
    ·simpa using hs
   ·have h32':¬(k:Int)<32:=by omega
    obtain⟨lp,lc,rfl⟩:=je HO.out
    have c33:wr.cell? ⟨w.heap.size+1,33,none⟩=some (.slice lp (k-32) lc):=(Ab _ _ _ _ _ _ HM.out).trans rfl
    go_wp2_with(at_builtin;go_loud (refine qp _ rfl _ _ 29 rfl (w.heap.size+2) 3 i0 underlying29 hi hz0 hz1 hz2 _ (k-32) (fun i=>32+i) rfl (HO.out.alloc _) _ 1 1 (fun _=>(k:Int)) rfl (zk8 wr k (Ar (by omega))) (by omega) (by simp;omega) ?_;intro v1 w1 hown1 hgrow1;obtain⟨lp1,lc1,rfl⟩:=je hown1;have HM1:=zgE HM.out HO.out hgrow1;have hc1:w1.cell? ⟨w.heap.size+1,33,none⟩=some (.slice lp (k-32) lc):=(Ab _ _ _ _ _ _ HM1).trans rfl;have hf1:∀j,w1.frozen? ⟨w.heap.size+1,j,none⟩=false:=fun j=>Ah _ _ j _ _ HM1))
    refine⟨⟨k+1,.slice lp1 (k-32+1) lc1,by omega,by go_num,?_,?_,?_,?_,?_⟩,by simp[intOf];omega⟩
    ·rw[zgD (r:=rg (k+1)) (r':=rg k) (fun i hi=>by unfold rg;rw[if_pos (by omega),if_pos (by omega)]),<-zgx P (rg k) (.slice lp (k-32) lc)]
     exact zy HM1
    ·have hown2:w1.ownsRow (w.heap.size+2) 3 1 (.slice lp1 (k-32+1) lc1) (k+1-32) (row (fun i=>32+i) (k+1-32)):=by
      rw[vh (f':=cat (fun i=>32+i) (k-32) (fun _=>(k:Int))) (fun i hi=>by unfold cat;split<;>(simp only[]<;>omega)),show k+1-32=k-32+1 by omega]
      exact hown1
     exact qE hown2 fun g hg=>zA (b:=w.heap.size+1) _ (by have:=(hown2.lt g hg).1;omega)
    ·exact zh ((hgrow1.block _ (by simp;omega) (by intro e;have:=(HO.out.lt _ e.symm).1;omega)).trans ((heap_alloc_old _ _ (by omega)).trans HZ.out)) (by omega)
    ·exact((HB.out.alloc HB.out.size _).grown hgrow1 (by simp;omega) (fun g hg=>by have:=(HO.out.lt g hg).1;omega)).setCell (Nat.le_succ _) _
    ·have:=hgrow1.size
     simp at this⊢
     omega
  ·have:k=P.toNat:=by omega
   subst this
   have hlt':decide (((P.toNat:Nat):Int)<P)=false:=by simp;omega
   obtain⟨lp,lc,rfl⟩:=je HO.out
   obtain⟨M,hM⟩:∃M,Hid (M=mcs P (rg P.toNat) (.slice lp (P.toNat-32) lc)):=⟨_,rfl⟩
   have HM':Hid (wr.heap[w.heap.size+1]?=some (.cells M 59 (0,0))):=by rw[hM.out];exact HM
   have MI:Hid ((prog.info? 59).map (·.size)=some M.size):=qD hM.out
   have MO:Hid (M.all (·.oneCell')=true):=by show _=_;rw[hM.out];exact xp _ _ _ _ _
   have MZ:Hid (Z.size=M.size):=by show _=_;rw[hM.out,hZ.out];rfl
   clear HM
   go_wp2_with(first|(refine zo (by rfl) 59 _ rfl _ rfl 59 _ (0,0) _ HM'.out underlying59 rfl MI.out ?_)|(refine Ag rfl 59 _ _ rfl _ _ rfl rfl 59 _ HZ.out MI.out MZ.out MO.out ?_))
   obtain⟨a',c',e,hl,hfar⟩:=kM HO.out (fun i hi=>Ar (by omega))
   cases e
   refine Ae (v:=.tuple #[.agg M,.int .i64 0]) ?_ rfl ⟨⟨lp,lc,by rw[hM.out],?_,hfar.mono (by omega)⟩,?_⟩
   ·have L2:=Ai (P:=prog) _ _ 59 59 M (0,0) _ (Ap _ _ _ _ _ _ HZ.out) underlying59 rfl MI.out
    simp[results,results28,asAddr,L2]
   ·refine hl.moved fun y hy=>?_
    have:=hfar y hy
    rw[Ak _ _ _ _ (by omega)]
   ·exact zc HB.out (by omega) _
end Go.Proofs.YtpiohehijkpghacGreatDoor.Re
namespace Go.Proofs.YtpiohehijkpghacGreatDoor.Wi
open Go.RowKit
theorem zkf:(prog.info? 3).map (fun i=>(i.zero,i.size,i.bytes))=some (some (.int .i64 0),1,8):=by kernel_rfl
theorem zbK:(prog.info? 159).map (fun i=>(i.zero,i.size,i.bytes))=some (some (.agg #[.int .i64 0,.bool false]),2,16):=by kernel_rfl
def above(seq:Int)(q:Sl):Bool:=decide (seq<=q.1)
def waits(seq:Int)(q:Sl):Bool:=decide (q.1=seq)&&!q.2
def Asks(g:Nat)(b:Nat)(p:Sl->Bool)(w:World):Prop:=
 ∀(W:World) (s:Int) (d:Bool),Below w.heap.size w W->Calls prog g #[.agg #[.int .i64 s,.bool d],.pointer (some ⟨b,0,none⟩)] W fun e w'=>e=.returned (.bool (p (s,d)))/\Below W.heap.size W w'
theorem zbL(B:Nat)(seq:Int)(w:World)(hc:w.cell? ⟨B,0,none⟩=some (.int .i64 seq)):Asks 169 B (above seq) w:=by
 intro W s d hb
 have hB:B<w.heap.size:=As _ _ hc
 have hc1:W.cell? ⟨B,0,none⟩=some (.int .i64 seq):=(hb.cell (p:=⟨B,0,none⟩) hB).trans hc
 have hB1:B<W.heap.size:=An hB hb.size
 clear hb hc hB
 go_enter func169,ntmps169
 go_wp2
 go_ret
 exact⟨rfl,(Ac _ _).alloc (Aa _) _⟩
theorem ze2(B:Nat)(seq:Int)(w:World)(hc:w.cell? ⟨B,0,none⟩=some (.int .i64 seq)):Asks 157 B (waits seq) w:=by
 intro W s d hb
 have hB:B<w.heap.size:=As _ _ hc
 have hc1:W.cell? ⟨B,0,none⟩=some (.int .i64 seq):=(hb.cell (p:=⟨B,0,none⟩) hB).trans hc
 have hB1:B<W.heap.size:=An hB hb.size
 clear hb hc hB
 by_cases e:s=seq
 ·subst e
  go_enter func157,ntmps157
  go_wp2
  go_ret
  exact⟨by simp[waits],(Ac _ _).alloc (Aa _) _⟩
 ·have e2:(s==seq)=false:=by simpa using e
  go_enter func157,ntmps157
  go_wp2
  go_ret
  exact⟨by simp[waits,e],(Ac _ _).alloc (Aa _) _⟩
theorem zla:∀args w,(callFunc 169 args).run prog w=.ok (.enter 169 args) w:=enters_of func169 (by kernel_rfl) rfl
theorem ziW:∀args w,(callFunc 157 args).run prog w=.ok (.enter 157 args) w:=enters_of func157 (by kernel_rfl) rfl
theorem xG(g b:Nat)(p:Sl->Bool)(eg:∀args w,(callFunc g args).run prog w=.ok (.enter g args) w)(a:Option Addr)(n c:Nat)(hn:n<=140737488355328)(l:List Sl)(m:Nat)(hm:Hid (First p l m))(r:Int)(hr:Hid (r=if m<n then(m:Int)else-1))(w:World)(hL:Hid (LC w a n c 2 (scs l)))(hA:Hid (Asks g b p w)):
  Calls prog 156 #[.slice a n c,.func (.func g) #[] #[.pointer (some ⟨b,0,none⟩)]] w fun e w'=>e=.returned (.int .i64 r)/\Below w.heap.size w w':=by
 have hlen:Hid (l.length=n):=by have:=hL.out.len;rw[kL]at this;show _=_;omega
 have hmn:m<=n:=by have:=hm.out.le;have:=hlen.out;omega
 go_enter func156,ntmps156
 go_wp2_with fail
 go_loopw [8] (fun i wr=>∃k:Nat,k<=m/\i=.int .i64 k/\Hid (Below w.heap.size w wr))
  (fun i _=>n-(intOf i).toNat)
 case atStart=>exact⟨0,by omega,rfl,Ac _ _⟩
 case round=>
  obtain⟨k,hk,rfl,HB⟩:=hrel
  by_cases hlt:k<n
  ·obtain⟨s,d,hsd⟩:=zgn (l:=l) (k:=k) (by rw[hlen.out];exact hlt)
   obtain⟨bb,o,rfl,hb,hc⟩:=hL.out.sure (by omega)
   have c0:wr.cell? ⟨bb,o+k*2,none⟩=some (.int .i64 s):=(HB.out.cell (p:=⟨bb,o+k*2,none⟩) hb).trans (hc _ _ (zaN _ _ _ hsd))
   have c1:wr.cell? ⟨bb,o+k*2+1,none⟩=some (.bool d):=(HB.out.cell (p:=⟨bb,o+k*2+1,none⟩) hb).trans (by rw[AA];exact hc _ _ (ka _ _ _ hsd))
   have hcall:=hA.out wr s d HB.out
   by_cases hkm:k=m
   ·subst hkm
    have hp:p (s,d)=true:=hm.out.yes _ hsd
    rw[hp]at hcall
    have hrk:r=k:=by rw[hr.out,if_pos hlt]
    subst hrk
    clear hc hsd hp
    go_wp2_with fail
    refine hcall.mono ?_
    rintro e w' ⟨rfl,hb'⟩
    have HB':Hid (Below w.heap.size w w'):=HB.out.trans (hb'.mono HB.out.size)
    clear hcall hb' c0 c1
    go_wp2_with fail
    go_ret
    exact⟨rfl,HB'.out⟩
   ·have hp:p (s,d)=false:=hm.out.no k _ (by omega) hsd
    rw[hp]at hcall
    clear hc hsd hp
    go_wp2_with fail
    refine hcall.mono ?_
    rintro e w' ⟨rfl,hb'⟩
    have HB':Hid (Below w.heap.size w w'):=HB.out.trans (hb'.mono HB.out.size)
    clear hcall hb' c0 c1
    go_wp2_with fail
    exact⟨⟨k+1,by omega,by go_num,HB'⟩,by simp[intOf];omega⟩
  ·have:k=n:=by omega
   subst this
   have hrk:r=-1:=by rw[hr.out,if_neg (by omega)]
   subst hrk
   go_wp2_with fail
   go_ret
   exact⟨rfl,HB.out⟩
theorem kN(g b:Nat)(p:Sl->Bool)(eg:∀args w,(callFunc g args).run prog w=.ok (.enter g args) w)(a:Option Addr)(n c:Nat)(hn:n<=140737488355328)(l:List Sl)(m:Nat)(hm:Hid (First p l m))(r:Bool)(hr:Hid (r=decide (m<n)))(w:World)(hL:Hid (LC w a n c 2 (scs l)))(hA:Hid (Asks g b p w)):
  Calls prog 135 #[.slice a n c,.func (.func g) #[] #[.pointer (some ⟨b,0,none⟩)]] w fun e w'=>e=.returned (.bool r)/\Below w.heap.size w w':=by
 obtain⟨x,hx⟩:∃x,Hid (x=if m<n then(m:Int)else-1):=⟨_,rfl⟩
 have C:=fun w hL hA=>xG g b p eg a n c hn l m hm x hx w hL hA
 have hr2:Hid (decide (0<=x)=r):=by
  show _=_
  rw[hr.out,hx.out]
  by_cases h:m<n
  ·rw[if_pos h];simp[h]
  ·rw[if_neg h];simp[h]
 go_enter func135,ntmps135
 go_wp2_with fail
 refine(C _ hL hA).mono ?_
 rintro e w' ⟨rfl,hb⟩
 have HB:Hid (Below w.heap.size w w'):=hb
 clear hb C
 go_wp2_with fail
 go_ret
 exact⟨by simp[hr2.out],HB.out⟩
theorem zbM(seq:Int)(w:World):Calls prog 136 #[.int .i64 seq] w fun e w'=>e=.returned (.func (.func 169) #[] #[.pointer (some ⟨w.heap.size,0,none⟩)])/\w'.cell? ⟨w.heap.size,0,none⟩=some (.int .i64 seq)/\Below w.heap.size w w':=by
 have hmf:∀(fn:Fn) (first cap:Array Value) (w:World),(Az fn first cap).run prog w=.ok (.func fn first cap) w:=fun _ _ _ _=>rfl
 go_enter func136,ntmps136
 go_wp2
 go_ret
 exact⟨rfl,by simp,(Ac _ _).alloc (Aa _) _⟩
theorem zcP(b o n c:Nat)(hn:n*16<=140737488355328)(cs:List Value)(w:World)(hL:Hid (LC w (some ⟨b,o,none⟩) n c 2 cs)):
  Calls prog 158 #[.slice (some ⟨b,o,none⟩) n c] w fun e w'=>(∃v',e=.returned v'/\w'.ownsRow w.heap.size 159 2 v' n cs)/\Below w.heap.size w w':=by
 obtain⟨i0,hi,hz0,hz1,hz2⟩:=Am zbK
 have q22:∀(w:World) (a:Option Addr) (n c n' c':Nat),(binOp .eql 62 (.slice a n c) (.slice none n' c')).run prog w=.ok (.bool a.isNone) w:=fun w a n c n' c'=>Lib.run_eql_slice_nil w _ _ a n c n' c' underlying62
 go_enter func158,ntmps158
 go_wp2_with(at_builtin;refine zv _ rfl _ _ 62 rfl w.heap.size 159 i0 _ 2 16 underlying62 hi hz0 hz1 hz2 rfl (by decide) _ 0 [] rfl (Ay w #[] 0 (Aa _) (AD _) rfl) _ n c cs rfl (hL.out.below (Aa _) ((Ac _ _).alloc (Aa _) _)) (by unfold maxLen;omega) (by omega) (by simp) ?_)
 intro v' w1 hown hgrow
 go_wp2
 go_ret
 exact⟨⟨_,rfl,by simpa using hown⟩,((Ac _ w).alloc (Aa _) _).grown hgrow (by simp) (by intro k hk;simp[Value.ownBlock]at hk;omega)⟩
theorem zgF(N:Nat)(h0:0<N)(hN:N*16<=140737488355328)(w:World):
  Calls prog 110 #[.slice none 0 0,.int .i64 N] w fun e w'=>(∃v',e=.returned v'/\w'.ownsRow w.heap.size 159 2 v' 0 [])/\Below w.heap.size w w':=by
 obtain⟨i0,hi,hz0,hz1,hz2⟩:=Am zbK
 go_enter func110,ntmps110
 go_wp2
 all_goals have e8:t159.bytes=16:=rfl
 all_goals have e9:Builtin.nextslicecap N 0*t159.bytes<=281474976710656:=growslice_fits h0 (by rw[e8];omega)
 all_goals try(exfalso;first|omega|(simp only[e8]at*;omega))
 go_ret
 have hge:=grownCap_ge w N 0 159
 have hle:=grownCap_le_maxLen w N 0 159 (by unfold maxLen;omega)
 refine⟨⟨_,rfl,Ay w _ _ (Aa _) hle ?_⟩,(((Ac _ _).alloc (Aa _) _).drew)⟩
 simp only[Array.size_append,size_zeroCells]
 show N*2+(grownCap w N 0 159-N)*2=grownCap w N 0 159*2
 omega
theorem ze3(w:World):
  Calls prog 110 #[.slice none 0 0,.int .i64 0] w fun e w'=>(∃v',e=.returned v'/\w'.ownsRow w.heap.size 159 2 v' 0 [])/\Below w.heap.size w w':=by
 go_enter func110,ntmps110
 go_wp2
 go_ret
 exact⟨⟨_,rfl,Aq _ _ _ _⟩,Ac _ _⟩
theorem zbN(N:Nat)(hN:N*16<=140737488355328)(w:World):
  Calls prog 110 #[.slice none 0 0,.int .i64 N] w fun e w'=>(∃v',e=.returned v'/\w'.ownsRow w.heap.size 159 2 v' 0 [])/\Below w.heap.size w w':=by
 by_cases h:0<N
 ·exact zgF N h hN w
 ·obtain rfl:N=0:=by omega
  exact ze3 w
theorem zcQ(q:Nat)(a1 a2:Option Addr)(n1 c1 n2 c2:Nat)(cs1 cs2:List Value)(hn:(n1+n2)*16<=140737488355328)(w:World)
  (hq:q<w.heap.size) (k0:w.cell? ⟨q,0,none⟩=some (.slice a1 n1 c1)) (k1:w.cell? ⟨q,1,none⟩=some (.slice a2 n2 c2)) (hL1:Hid (LC w a1 n1 c1 2 cs1)) (hL2:Hid (LC w a2 n2 c2 2 cs2)):
  Calls prog 77 #[.slice (some ⟨q,0,none⟩) 2 2] w fun e w'=>(∃v',e=.returned v'/\w'.ownsRow w.heap.size 159 2 v' (n1+n2) (cs1++cs2))/\Below w.heap.size w w':=by
 obtain⟨i0,hi,hz0,hz1,hz2⟩:=Am zbK
 have C:=fun w=>zbN (n1+n2) hn w
 simp only[Int.natCast_add]at C
 go_enter func77,ntmps77
 go_wp2_with fail
 refine Ao 3 ?_
 rw[Af]
 go_wp2_with fail
 rw[Af]
 go_wp2_with fail
 rw[Af]
 go_wp2_with fail
 refine(C _).mono ?_
 rintro e W1 ⟨⟨v,rfl,hown⟩,hk⟩
 have j0:W1.cell? ⟨q,0,none⟩=some (.slice a1 n1 c1):=(hk.cell (p:=⟨q,0,none⟩) hq).trans k0
 have j1:W1.cell? ⟨q,1,none⟩=some (.slice a2 n2 c2):=(hk.cell (p:=⟨q,1,none⟩) hq).trans k1
 have HO:Hid (W1.ownsRow w.heap.size 159 2 v 0 []):=hown
 have HK:Hid (Below w.heap.size w W1):=hk
 clear hown hk k0 k1 C
 go_wp2_with fail
 refine Ao 3 ?_
 rw[Af]
 go_wp2_with(at_builtin;refine zv _ rfl _ _ 62 rfl w.heap.size 159 i0 _ 2 16 underlying62 hi hz0 hz1 hz2 rfl (by decide) _ 0 [] rfl HO.out _ n1 c1 cs1 rfl (hL1.out.below (Aa _) HK.out) (by unfold maxLen;omega) (by omega) HK.out.size ?_;intro v1 w1 hown1 hgrow1)
 have m1:w1.cell? ⟨q,1,none⟩=some (.slice a2 n2 c2):=hgrow1.cell j1 (by intro e;have h:w.heap.size<=q:=(HO.out.lt _ e.symm).1;omega)
 have HO1:Hid (w1.ownsRow w.heap.size 159 2 v1 n1 cs1):=by show AB _ _ _ _ _ _ _;simpa using hown1
 have HK1:Hid (Below w.heap.size w w1):=HK.out.grown hgrow1 HK.out.size (fun k hk=>(HO.out.lt k hk).1)
 clear hown1 hgrow1 HO HK j0 j1
 rw[Af]
 go_wp2_with(at_builtin;refine zv _ rfl _ _ 62 rfl w.heap.size 159 i0 _ 2 16 underlying62 hi hz0 hz1 hz2 rfl (by decide) _ n1 cs1 rfl HO1.out _ n2 c2 cs2 rfl (hL2.out.below (Aa _) HK1.out) (by unfold maxLen;omega) (by omega) HK1.out.size ?_;intro v2 w2 hown2 hgrow2)
 have HK2:Hid (Below w.heap.size w w2):=HK1.out.grown hgrow2 HK1.out.size (fun k hk=>(HO1.out.lt k hk).1)
 have HO2:Hid (w2.ownsRow w.heap.size 159 2 v2 (n1+n2) (cs1++cs2)):=hown2
 clear hown2 hgrow2
 rw[Af]
 go_wp2_with fail
 go_ret
 exact⟨⟨_,rfl,HO2.out⟩,HK2.out⟩
theorem xN(q:Nat)(a1:Option Addr)(n1 c1:Nat)(cs1:List Value)(hn:n1*16<=140737488355328)(w:World)
  (hq:q<w.heap.size) (k0:w.cell? ⟨q,0,none⟩=some (.slice a1 n1 c1)) (hL1:Hid (LC w a1 n1 c1 2 cs1)):
  Calls prog 77 #[.slice (some ⟨q,0,none⟩) 1 1] w fun e w'=>(∃v',e=.returned v'/\w'.ownsRow w.heap.size 159 2 v' n1 cs1)/\Below w.heap.size w w':=by
 obtain⟨i0,hi,hz0,hz1,hz2⟩:=Am zbK
 have C:=fun w=>zbN n1 hn w
 go_enter func77,ntmps77
 go_wp2_with fail
 refine Ao 2 ?_
 rw[Af]
 go_wp2_with fail
 rw[Af]
 go_wp2_with fail
 refine(C _).mono ?_
 rintro e W1 ⟨⟨v,rfl,hown⟩,hk⟩
 have j0:W1.cell? ⟨q,0,none⟩=some (.slice a1 n1 c1):=(hk.cell (p:=⟨q,0,none⟩) hq).trans k0
 have HO:Hid (W1.ownsRow w.heap.size 159 2 v 0 []):=hown
 have HK:Hid (Below w.heap.size w W1):=hk
 clear hown hk k0 C
 go_wp2_with fail
 refine Ao 2 ?_
 rw[Af]
 go_wp2_with(at_builtin;refine zv _ rfl _ _ 62 rfl w.heap.size 159 i0 _ 2 16 underlying62 hi hz0 hz1 hz2 rfl (by decide) _ 0 [] rfl HO.out _ n1 c1 cs1 rfl (hL1.out.below (Aa _) HK.out) (by unfold maxLen;omega) (by omega) HK.out.size ?_;intro v1 w1 hown1 hgrow1)
 have HO1:Hid (w1.ownsRow w.heap.size 159 2 v1 n1 cs1):=by show AB _ _ _ _ _ _ _;simpa using hown1
 have HK1:Hid (Below w.heap.size w w1):=HK.out.grown hgrow1 HK.out.size (fun k hk=>(HO.out.lt k hk).1)
 clear hown1 hgrow1 HO HK j0
 rw[Af]
 go_wp2_with fail
 go_ret
 exact⟨⟨_,rfl,HO1.out⟩,HK1.out⟩
theorem qJ{w:World}{base base':Nat}{e:TypeId}{size:Nat}{v:Value}{n:Nat}{xs:List Value}(h:w.ownsRow base e size v n xs)(hb:base'<=base):w.ownsRow base' e size v n xs:=by
 obtain⟨h1,h2⟩:=h
 refine⟨h1,?_⟩
 rcases h2 with h2|⟨g,cap,cur,hv,hg,r⟩
 ·exact .inl h2
 ·exact .inr ⟨g,cap,cur,hv,Nat.le_trans hb hg,r⟩
theorem ziX{w w':World}{base:Nat}{e:TypeId}{size:Nat}{v:Value}{n:Nat}{xs:List Value}(h:w.ownsRow base e size v n xs)(hb:∀g,v.ownBlock=some g->w'.heap[g]?=w.heap[g]?):w'.ownsRow base e size v n xs:=by
 obtain⟨h1,h2⟩:=h
 refine⟨h1,?_⟩
 rcases h2 with h2|⟨g,cap,cur,hv,hg,hh,r⟩
 ·exact .inl h2
 ·exact .inr ⟨g,cap,cur,hv,hg,(hb g (by rw[hv];rfl)).trans hh,r⟩
theorem zr{w w':World}{base:Nat}{e:TypeId}{size:Nat}{v:Value}{n:Nat}{xs:List Value}(h:w.ownsRow base e size v n xs){B:Nat}(hB:w.heap.size<=B)(hb:Below B w w'):w'.ownsRow base e size v n xs:=
 ziX h fun g hg=>hb.block g (An (h.lt g hg).2 hB)
theorem vm{w:World}{base:Nat}{e:TypeId}{size:Nat}{v:Value}{n:Nat}{xs:List Value}(h:w.ownsRow base e size v n xs):∃lp lc,v=.slice lp n lc:=by
 rcases h.2 with⟨hv,rfl⟩|⟨g,cap,cur,hv,_⟩
 ·exact⟨_,_,hv⟩
 ·exact⟨_,_,hv⟩
theorem zj{Φ:World->Prop}{w:World}{A:Obj}(h:∀W:World,W.heap[w.heap.size]?=some A->Below w.heap.size w W->Φ W):Φ (w.alloc A):=
 h _ (heap_alloc_new _ _) ((Ac _ _).alloc (Aa _) _)
theorem jl{Φ:World->Prop}{w:World}{A B:Obj}(h:∀W:World,W.heap[w.heap.size]?=some A->W.heap[w.heap.size+1]?=some B->Below w.heap.size w W->w.heap.size+2<=W.heap.size->Φ W):Φ ((w.alloc A).alloc B):=
 h _ (Av _ _ _) (Aw _ _ _) (((Ac _ _).alloc (Aa _) _).alloc (by simp) _) (by simp)
theorem zao{w:World}{g n size:Nat}{t:TypeId}{cs:List Value}(h:w.heap[g]?=some (.cells cs.toArray t (0,0)))(h1:∀u∈cs,u.oneCell'=true)(hl:cs.length=n*size)(hm:n<=maxLen:=by unfold maxLen;omega):LC w (some ⟨g,0,none⟩) n n size cs:=
 ⟨hl,Aa _,hm,fun h=>(nomatch h),h1,fun x hx _=>⟨g,0,(Aj hx).symm,(Ad.1 h).1,fun j u hj=>by
  rw[Ab _ _ _ _ _ _ h]
  simpa using hj⟩⟩
theorem zd6{w:World}{B e n size:Nat}{v:Value}{cs:List Value}(hown:w.ownsRow B e size v n cs)(hn:0<n):∃g cap,v=.slice (some ⟨g,0,none⟩) n cap:=by
 rcases hown.2 with⟨_,h⟩|⟨g,cap,cur,h,_⟩
 ·omega
 ·exact⟨g,cap,h⟩
def zgG(w:World)(l:List Sl)(ok:Bool)(e:Ending)(w':World):Prop:=
 (∃a c,e=.returned (.tuple #[.slice a l.length c,.bool ok])/\LC w' a l.length c 2 (scs l)/\FarC w.heap.size a)/\Below w.heap.size w w'
theorem ziY{w w':World}{e:Ending}(he:e=.returned (.tuple #[.slice none 0 0,.bool false]))(hb:Below w.heap.size w w'):zgG w [] false e w':=
 ⟨⟨none,0,he,vb _ _,zbF _⟩,hb⟩
theorem zbO{w w':World}{v:Value}{l:List Sl}{n:Nat}(hn:l.length=n)(hown:w'.ownsRow w.heap.size 159 2 v n (scs l))(hb:Below w.heap.size w w'):zgG w l true (.returned (.tuple #[v,.bool true])) w':=by
 subst hn
 obtain⟨a,c,rfl,h1,h2⟩:=qv hown (yZ l)
 exact⟨⟨a,c,rfl,h1,h2⟩,hb⟩
theorem ze4(a:Option Addr)(n c:Nat)(room seq:Int)(h:room<=n)(w:World):
  Calls prog 91 #[.slice a n c,.int .i64 room,.int .i64 seq] w fun e w'=>zgG w [] false e w':=by
 have h1:decide (room<=(n:Int))=true:=by simpa using h
 go_enter func91,ntmps91
 go_wp2_with fail
 refine Ae (v:=.tuple #[.slice none 0 0,.bool false]) ?_ rfl (ziY rfl (Ac _ _))
 simp[results,results91,asAddr]
theorem zgH(a:Option Addr)(n c:Nat)(room seq:Int)(h:n<room)(l:List Sl)(hm:Hid (First (above seq) l n))(hn:n*16+16<=140737488355328)(w:World)(hL:Hid (LC w a n c 2 (scs l))):
  Calls prog 91 #[.slice a n c,.int .i64 room,.int .i64 seq] w fun e w'=>zgG w (l++[(seq,false)]) true e w':=by
 have h1:decide (room<=(n:Int))=false:=by simpa using h
 have hlen:Hid (l.length=n):=by have:=hL.out.len;rw[kL]at this;show _=_;omega
 go_enter func91,ntmps91
 go_wp2_with fail
 refine(zbM seq _).mono ?_
 rintro e W1 ⟨rfl,hc,hb⟩
 have HB:Hid (Below w.heap.size w W1):=hb
 have HA:Hid (Asks 169 w.heap.size (above seq) W1):=zbL _ _ _ hc
 clear hc hb
 go_wp2_with fail
 refine(kN 169 w.heap.size (above seq) zla a n c (by omega) l n hm false (show _=_ by simp) W1 (hL.out.below (Aa _) HB.out) HA).mono ?_
 rintro e W2 ⟨rfl,hb⟩
 have HB2:Hid (Below w.heap.size w W2):=HB.out.trans (hb.mono HB.out.size)
 clear hb HB
 go_wp2_with fail
 refine jl (Φ:=fun W=>Calls _ _ _ W _) ?_
 intro V hV1 hV2 hVb hVs
 have q0:V.cell? ⟨W2.heap.size+1,0,none⟩=some (.slice a n c):=(Ab _ _ _ _ _ _ hV2).trans rfl
 have q1:V.cell? ⟨W2.heap.size+1,1,none⟩=some (.slice (some ⟨W2.heap.size,0,none⟩) 1 1):=(Ab _ _ _ _ _ _ hV2).trans rfl
 have HV:Hid (Below w.heap.size w V):=HB2.out.trans (hVb.mono HB2.out.size)
 have L2:Hid (LC V (some ⟨W2.heap.size,0,none⟩) 1 1 2 (scs [(seq,false)])):=zao hV1 (yZ [(seq,false)]) rfl
 have hq:W2.heap.size+1<V.heap.size:=(Ad.1 hV2).1
 refine(zcQ (W2.heap.size+1) a (some ⟨W2.heap.size,0,none⟩) n c 1 1 (scs l) (scs [(seq,false)]) (by omega) V hq q0 q1 (hL.out.below (Aa _) HV.out) L2).mono ?_
 rintro e W3 ⟨⟨v,rfl,hown⟩,hb⟩
 have HB3:Hid (Below w.heap.size w W3):=HV.out.trans (hb.mono HV.out.size)
 have HO:Hid (W3.ownsRow w.heap.size 159 2 v (n+1) (scs (l++[(seq,false)]))):=by rw[zcN];exact qJ hown HV.out.size
 clear hb hown hV1 hV2 hVb hVs q0 q1 HV L2 hq HB2
 go_wp2_with fail
 refine Ae (v:=.tuple #[v,.bool true]) ?_ rfl (zbO (by simp[hlen.out]) HO.out HB3.out)
 simp[results,results91,asAddr]
theorem zgI(a:Option Addr)(n c:Nat)(seq:Int)(l:List Sl)(m:Nat)(hm:Hid (First (waits seq) l m))(hmn:m<n)(hn:n*16<=140737488355328)(w:World)(hL:Hid (LC w a n c 2 (scs l))):
  Calls prog 124 #[.slice a n c,.int .i64 seq] w fun e w'=>zgG w (l.set m (seq,true)) true e w':=by
 have hmf:∀(fn:Fn) (first cap:Array Value) (w:World),(Az fn first cap).run prog w=.ok (.func fn first cap) w:=fun _ _ _ _=>rfl
 have hlen:Hid (l.length=n):=by have:=hL.out.len;rw[kL]at this;show _=_;omega
 obtain⟨b0,o0,rfl,hb0,hc0⟩:=hL.out.sure (by omega)
 clear hc0 hb0
 have hat:Hid ((l[m]?).map (·.1)=some seq):=by
  obtain⟨s,d,hsd⟩:=zgn (l:=l) (k:=m) (by rw[hlen.out];exact hmn)
  have:=hm.out.yes _ hsd
  simp[waits]at this
  show _=_
  rw[hsd]
  simp[this.1]
 go_enter func124,ntmps124
 go_wp2_with fail
 refine zj (Φ:=fun W=>Calls _ _ _ W _) ?_
 intro V hV hVb
 have HV:Hid (Below w.heap.size w V):=hVb
 have HA:Hid (Asks 157 w.heap.size (waits seq) V):=ze2 _ _ _ ((Ab _ _ _ _ _ _ hV).trans rfl)
 clear hV hVb
 refine(xG 157 w.heap.size (waits seq) ziW _ n c (by omega) l m hm m (show _=_ by rw[if_pos hmn]) V (hL.out.below (Aa _) HV.out) HA).mono ?_
 rintro e W1 ⟨rfl,hb⟩
 have HB:Hid (Below w.heap.size w W1):=HV.out.trans (hb.mono HV.out.size)
 clear hb HV HA
 go_wp2_with fail
 refine(zcP b0 o0 n c hn (scs l) W1 (hL.out.below (Aa _) HB.out)).mono ?_
 rintro e W2 ⟨⟨v,rfl,hown⟩,hb⟩
 obtain⟨g,cap,rfl⟩:=zd6 hown (by omega)
 have HO:Hid (W2.ownsRow w.heap.size 159 2 (.slice (some ⟨g,0,none⟩) n cap) n (scs l)):=qJ hown HB.out.size
 have HB2:Hid (Below w.heap.size w W2):=HB.out.trans (hb.mono HB.out.size)
 have hfr:W2.frozen? ⟨g,m*2+1,none⟩=false:=HO.out.frozenAt _
 have hcl:W2.cell? ⟨g,m*2+1,none⟩=(scs l)[m*2+1]?:=HO.out.cellAt _ (by omega)
 obtain⟨s,d,hsd⟩:=zgn (l:=l) (k:=m) (by rw[hlen.out];exact hmn)
 rw[ka _ _ _ hsd]at hcl
 have hg:=(HO.out.lt g rfl).1
 clear hb hown HB hsd
 go_wp2_with fail
 have hst:=HO.out.stored (m*2+1) (.bool true)
 rw[zgm _ _ _ hat.out]at hst
 refine Ae (v:=.tuple #[.slice (some ⟨g,0,none⟩) n cap,.bool true]) ?_ rfl (zbO (by simp[hlen.out]) hst.1 (HB2.out.setCell hg _))
 simp[results,results124,asAddr]
theorem below_setRow{B:Nat}{a w:World}(h:Below B a w){g:Nat}(hg:B<=g)(cs:Array Value):Below B a (w.setRow g cs):=
 ⟨h.os,h.tape,h.output,by simpa using h.size,fun k hk=>(Ak _ _ _ _ (by omega)).trans (h.block k hk)⟩
theorem zd7(w:World)(a:Option Addr)(size:Nat):LC w a 0 0 size []:=⟨by simp,Aa _,by unfold maxLen;omega,fun _=>⟨rfl,rfl⟩,fun u hu=>by simp at hu,fun x hx h0=>absurd h0 (by omega)⟩
theorem znh{w:World}{a:Option Addr}{m c size size':Nat}{cs:List Value}{f:Addr->Addr}(h:LC w a m c size cs):LC w (Option.map f a) 0 (c-m) size' []:=by
 refine⟨by simp,AD _,by have:=h.top;omega,fun e=>?_,fun u hu=>by simp at hu,fun x hx h0=>absurd h0 (by omega)⟩
 cases a with
 |none=>have:=h.nil rfl;omega
 |some x=>cases e
def jS(l:List Sl)(m:Nat):List Int:=(l.take m).map (·.1)
theorem kj{l:List Sl}{m n:Nat}(h:l.length=n)(hm:m<=n):(jS l m).length=m:=by
 unfold jS
 rw[List.length_map,List.length_take,h]
 omega
theorem ze5{l:List Sl}{k:Nat}{s:Int}{d:Bool}(h:l[k]?=some (s,d)):jS l (k+1)=jS l k++[s]:=by
 unfold jS
 rw[take_at h,List.map_append]
 rfl
def zbP(w:World)(l:List Sl)(k:List Int)(e:Ending)(w':World):Prop:=
 (∃a c b d,e=.returned (.tuple #[.slice a l.length c,.slice b k.length d])/\LC w' a l.length c 2 (scs l)/\FarC w.heap.size a/\LC w' b k.length d 1 (ics k)/\FarC w.heap.size b)/\Below w.heap.size w w'
theorem jH{w w':World}{v u:Value}{l:List Sl}{k:List Int}{n m:Nat}(hn:l.length=n)(hm:k.length=m)(hown:w'.ownsRow w.heap.size 159 2 v n (scs l))(hk:w'.ownsRow w.heap.size 3 1 u m (ics k))(hb:Below w.heap.size w w'):zbP w l k (.returned (.tuple #[v,u])) w':=by
 subst hn hm
 obtain⟨a,c,rfl,h1,h2⟩:=qv hown (yZ l)
 obtain⟨b,d,rfl,h3,h4⟩:=qv hk (jA k)
 exact⟨⟨a,c,b,d,rfl,h1,h2,h3,h4⟩,hb⟩
theorem ziZ(a:Option Addr)(n c:Nat)(most:Int)(l:List Sl)(m:Nat)(hm:Hid (Goes l most m))(hn:n*16<=140737488355328)(w:World)(hL:Hid (LC w a n c 2 (scs l))):
  Calls prog 50 #[.slice a n c,.int .i64 most] w fun e w'=>zbP w (l.drop m) (jS l m) e w':=by
 obtain⟨i3,hi3,hz0,hz1,hz2⟩:=Am zkf
 have hlen:Hid (l.length=n):=by have:=hL.out.len;rw[kL]at this;show _=_;omega
 have hmn:m<=n:=by have:=hm.out.le;have:=hlen.out;omega
 go_enter func50,ntmps50
 go_wp2_with fail
 go_loopw [6,11] (fun v i wr=>∃k:Nat,k<=m/\i=.int .i64 k/\Hid (wr.ownsRow w.heap.size 3 1 v k (ics (jS l k)))/\Hid (Below w.heap.size w wr))
  (fun _ i _=>n-(intOf i).toNat)
 case atStart=>exact⟨0,by omega,rfl,Aq _ _ _ _,Ac _ _⟩
 case round=>
  obtain⟨k,hk,rfl,HO,HB⟩:=hrel
  obtain⟨pk,ck,rfl⟩:=vm HO.out
  by_cases hlt:k<n
  ·obtain⟨s,d,hsd⟩:=zgn (l:=l) (k:=k) (by rw[hlen.out];exact hlt)
   obtain⟨bb,o,rfl,hb,hc⟩:=hL.out.sure (by omega)
   have c0:wr.cell? ⟨bb,o+k*2,none⟩=some (.int .i64 s):=(HB.out.cell (p:=⟨bb,o+k*2,none⟩) hb).trans (hc _ _ (zaN _ _ _ hsd))
   have c1:wr.cell? ⟨bb,o+k*2+1,none⟩=some (.bool d):=(HB.out.cell (p:=⟨bb,o+k*2+1,none⟩) hb).trans (by rw[AA];exact hc _ _ (ka _ _ _ hsd))
   have hkc:k<c:=by have:=hL.out.le;omega
   clear hc
   go_upto_region 5 with fail
   refine zj (Φ:=fun W=>AC _ _ _ _ W) ?_
   intro U hU hUb
   have HBU:Hid (Below w.heap.size w U):=HB.out.trans (hUb.mono HB.out.size)
   have HOU:Hid (U.ownsRow w.heap.size 3 1 (.slice pk k ck) k (ics (jS l k))):=zr HO.out (Aa _) hUb
   have e0:U.cell? ⟨wr.heap.size,0,none⟩=some (.int .i64 s):=(Ab _ _ _ _ _ _ hU).trans rfl
   have e1:U.cell? ⟨wr.heap.size,1,none⟩=some (.bool d):=(Ab _ _ _ _ _ _ hU).trans rfl
   clear hU hUb HB HO c0 c1
   generalize wr.heap.size=q at*
   by_cases hkm:k=m
   ·subst hkm
    have hst:=hm.out.stop _ hsd
    by_cases hmo:(k:Int)<most
    case' pos=>
     have hd:d=false:=by
      cases d with
      |false=>rfl
      |true=>exact absurd ⟨hmo,rfl⟩ hst
     subst hd
     have hmo2:decide (most<=(k:Int))=false:=by simpa using hmo
    case' neg=>
     have hmo2:decide (most<=(k:Int))=true:=by simpa using hmo
    all_goals
     clear hst hsd
     go_wp2_with fail
     refine zj (Φ:=fun W=>Calls _ _ _ W _) ?_
     intro V hV hVb
     have HV:Hid (Below w.heap.size w V):=HBU.out.trans (hVb.mono HBU.out.size)
     have q0:V.cell? ⟨U.heap.size,0,none⟩=some (.slice (some ⟨bb,o+k*2,none⟩) (n-k) (c-k)):=(Ab _ _ _ _ _ _ hV).trans rfl
     have hq:U.heap.size<V.heap.size:=(Ad.1 hV).1
     have HOV:Hid (V.ownsRow w.heap.size 3 1 (.slice pk k ck) k (ics (jS l k))):=zr HOU.out (Aa _) hVb
     have L2:Hid (LC V (some ⟨bb,o+k*2,none⟩) (n-k) (c-k) 2 (scs (l.drop k))):=by rw[zd0];exact LC.drop (hL.out.below (Aa _) HV.out) k (by omega) (fun _=>rfl) rfl
     refine(xN U.heap.size (some ⟨bb,o+k*2,none⟩) (n-k) (c-k) (scs (l.drop k)) (by omega) V hq q0 L2).mono ?_
     rintro e W3 ⟨⟨v,rfl,hown⟩,hb3⟩
     have HB3:Hid (Below w.heap.size w W3):=HV.out.trans (hb3.mono HV.out.size)
     have HO3:Hid (W3.ownsRow w.heap.size 159 2 v ((n-k)) (scs (l.drop k))):=qJ hown HV.out.size
     have HK3:Hid (W3.ownsRow w.heap.size 3 1 (.slice pk k ck) k (ics (jS l k))):=zr HOV.out (Aa _) hb3
     clear hV hVb HV q0 hq HOV L2 hown hb3
     go_wp2_with fail
     refine Ae (v:=.tuple #[v,.slice pk k ck]) ?_ rfl (jH (by rw[At,hlen.out];try omega) (kj hlen.out (by omega)) HO3.out HK3.out HB3.out)
     simp[results,results50,asAddr]
   ·have hgo:=hm.out.go k _ (by omega) hsd
    obtain⟨hmo,hd⟩:=hgo
    have hd':d=true:=hd
    subst hd'
    have hmo2:decide (most<=(k:Int))=false:=by simpa using hmo
    have HN:Hid (jS l (k+1)=jS l k++[s]):=ze5 hsd
    clear hsd hd
    go_wp2_with(at_builtin;refine zv _ rfl _ _ 29 rfl w.heap.size 3 i3 _ 1 8 underlying29 hi3 hz0 hz1 hz2 rfl (by decide) _ k _ rfl (zr HOU.out (Aa _) ((Ac _ _).alloc (Aa _) _)) _ 1 1 (ics [s]) rfl (zao (heap_alloc_new _ _) (jA [s]) rfl) (by unfold maxLen;omega) (by omega) (by have:=HBU.out.size;simp;omega) ?_;intro v1 w1 hown1 hgrow1)
    have HO1:Hid (w1.ownsRow w.heap.size 3 1 v1 (k+1) (ics (jS l (k+1)))):=by rw[HN.out,zaO];exact hown1
    have HB1:Hid (Below w.heap.size w w1):=(HBU.out.alloc HBU.out.size _).grown hgrow1 (by have:=HBU.out.size;simp;omega) (fun j hj=>(HOU.out.lt j hj).1)
    clear hown1 hgrow1
    go_wp2_with fail
    exact⟨⟨k+1,by omega,by go_num,HO1,HB1⟩,by simp[intOf];omega⟩
  ·have:k=n:=by omega
   subst this
   have hmk:m=k:=by omega
   subst hmk
   go_wp2_with fail
   case inl=>
    have hcm:m=c:=by first|assumption|omega
    subst hcm
    refine zj (Φ:=fun W=>Calls _ _ _ W _) ?_
    intro V hV hVb
    have HV:Hid (Below w.heap.size w V):=HB.out.trans (hVb.mono HB.out.size)
    have q0:V.cell? ⟨wr.heap.size,0,none⟩=some (.slice a 0 0):=(Ab _ _ _ _ _ _ hV).trans rfl
    have hq:wr.heap.size<V.heap.size:=(Ad.1 hV).1
    have HOV:Hid (V.ownsRow w.heap.size 3 1 (.slice pk m ck) m (ics (jS l m))):=zr HO.out (Aa _) hVb
    have L2:Hid (LC V a 0 0 2 (scs (l.drop m))):=by rw[List.drop_of_length_le (by rw[hlen.out];exact Aa _)];exact zd7 _ _ _
    refine(xN wr.heap.size a 0 0 (scs (l.drop m)) (by omega) V hq q0 L2).mono ?_
    rintro e W3 ⟨⟨v,rfl,hown⟩,hb3⟩
    have HB3:Hid (Below w.heap.size w W3):=HV.out.trans (hb3.mono HV.out.size)
    have HO3:Hid (W3.ownsRow w.heap.size 159 2 v (0) (scs (l.drop m))):=qJ hown HV.out.size
    have HK3:Hid (W3.ownsRow w.heap.size 3 1 (.slice pk m ck) m (ics (jS l m))):=zr HOV.out (Aa _) hb3
    clear hV hVb HV q0 hq HOV L2 hown hb3
    go_wp2_with fail
    refine Ae (v:=.tuple #[v,.slice pk m ck]) ?_ rfl (jH (by rw[At,hlen.out];try omega) (kj hlen.out (by omega)) HO3.out HK3.out HB3.out)
    simp[results,results50,asAddr]
   case inr=>
    refine zj (Φ:=fun W=>Calls _ _ _ W _) ?_
    intro V hV hVb
    have HV:Hid (Below w.heap.size w V):=HB.out.trans (hVb.mono HB.out.size)
    have q0:V.cell? ⟨wr.heap.size,0,none⟩=some (.slice (Option.map (fun x=>x.add (m*2)) a) 0 (c-m)):=(Ab _ _ _ _ _ _ hV).trans rfl
    have hq:wr.heap.size<V.heap.size:=(Ad.1 hV).1
    have HOV:Hid (V.ownsRow w.heap.size 3 1 (.slice pk m ck) m (ics (jS l m))):=zr HO.out (Aa _) hVb
    have L2:Hid (LC V (Option.map (fun x=>x.add (m*2)) a) 0 (c-m) 2 (scs (l.drop m))):=by rw[List.drop_of_length_le (by rw[hlen.out];exact Aa _)];exact znh (hL.out.below (Aa _) HV.out)
    refine(xN wr.heap.size (Option.map (fun x=>x.add (m*2)) a) 0 (c-m) (scs (l.drop m)) (by omega) V hq q0 L2).mono ?_
    rintro e W3 ⟨⟨v,rfl,hown⟩,hb3⟩
    have HB3:Hid (Below w.heap.size w W3):=HV.out.trans (hb3.mono HV.out.size)
    have HO3:Hid (W3.ownsRow w.heap.size 159 2 v (0) (scs (l.drop m))):=qJ hown HV.out.size
    have HK3:Hid (W3.ownsRow w.heap.size 3 1 (.slice pk m ck) m (ics (jS l m))):=zr HOV.out (Aa _) hb3
    clear hV hVb HV q0 hq HOV L2 hown hb3
    go_wp2_with fail
    refine Ae (v:=.tuple #[v,.slice pk m ck]) ?_ rfl (jH (by rw[At,hlen.out];try omega) (kj hlen.out (by omega)) HO3.out HK3.out HB3.out)
    simp[results,results50,asAddr]
end Go.Proofs.YtpiohehijkpghacGreatDoor.Wi
