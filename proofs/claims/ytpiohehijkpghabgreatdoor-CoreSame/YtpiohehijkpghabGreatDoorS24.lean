/- Taking back: the program. -/
import Derived.Test.YtpiohehijkpghabGreatDoorS23
set_option maxRecDepth 20000
set_option maxHeartbeats 1000000
set_option linter.unusedVariables false
open Go.Proofs.Tryz
namespace Go.Proofs.YtpiohehijkpghabGreatDoor.Re
open Go.RowKit Go.Maps
open Re.Hy
theorem zI{w:World}{b i:Nat}{cs:Array Value}{t:TypeId}{fr:Nat×Nat}{v:Value}(h:w.heap[b]?=some (.cells cs t fr)):(w.setCell ⟨b,i,none⟩ v).heap[b]?=some (.cells (cs.setIfInBounds i v) t fr):=by
 simp[World.setCell,Array.getElem?_modify,h]
theorem zo{w:World}{b g i:Nat}{o:Obj}{v:Value}(h:w.heap[g]?=some o)(hne:b≠g):(w.setCell ⟨b,i,none⟩ v).heap[g]?=some o:=by
 simp[World.setCell,Array.getElem?_modify,h,hne]
theorem zK{w:World}{b g i:Nat}(v:Value)(h:g≠b):(w.setCell ⟨b,i,none⟩ v).heap[g]?=w.heap[g]?:=by
 simp[World.setCell,Array.getElem?_modify,Ne.symm h]
theorem zh{B:Nat}{a w:World}(h:Below B a w){g:Nat}(hg:B<=g)(cs:Array Value):Below B a (w.setRow g cs):=
 ⟨h.os,h.tape,h.output,by simpa using h.size,fun k hk=>(setRow_other _ _ _ _ (by omega)).trans (h.block k hk)⟩
theorem zc{P:Program}{ops:Array Oper}{S:World->Prop}{op:Oper}{a:Act}(hw:Region.wanted op (yielded ops a.tmps)=true)(ty:TypeId)(x:Operand)(ho:op.op=.load ty x)
  (g:Nat) (hx:a.eval x=.pointer (some ⟨g,0,none⟩)) (t:TypeId) (cs:Array Value) (fr:Nat×Nat) (d:TypeDesc) (hS:∀w,S w->w.heap[g]?=some (.cells cs t fr))
  (hu:P.underlying ty=some d) (hd:(match d with|.struct _|.array _ _=>true|_=>false)=true) (hi:(P.info? ty).map (·.size)=some cs.size):YieldsIf P ops S op (.agg cs) a:=
 .inl ⟨hw,fun w hw'=>by
  unfold execOp
  simp only[ho,hx,Instr.loadAt,Instr.sureAddr,Sem.run_bind,Sem.run_pure,Result.andThen_ok,run_loadVar_row w g t ty cs fr d (hS w hw') hu hd hi]⟩
theorem zbb{Φ:World->Prop}{w:World}{A B:Obj}(h:∀W:World,W.heap[w.heap.size]?=some A->W.heap[w.heap.size+1]?=some B->Below w.heap.size w W->w.heap.size+2<=W.heap.size->Φ W):Φ ((w.alloc A).alloc B):=
 h _ (heap_alloc2_old _ _ _) (heap_alloc2_new _ _ _) (((Below.refl _ _).alloc (Nat.le_refl _) _).alloc (by simp) _) (by simp)
abbrev zm:Array Value:=mcs 0 (fun _=>0) (.slice none 0 0)
theorem zbc:zm.size=34:=rfl
theorem xw(P:Int)(r:Nat->Int)(a:Option Addr)(n c:Nat):(mcs P r (.slice a n c)).all (·.oneCell')=true:=by simp[Value.oneCell']
theorem zhq(T:Array Value)(P:Int)(r f:Nat->Int)(a:Option Addr)(n c:Nat)(hT:Hid (T=mcs P r (.slice a n c)))(hm:Hid (MayBe P n r f))
  (h0:T[0]?=some (.int .i64 P)) (hF:T[33]?=some (.slice a n c)) (hR:Hid (Rg r)) (k:Nat) (k0:1<=k) (k1:k<32) (hn:0<n) (w:World) (hL:Hid (Lie w a n c f)):
  Calls prog 116 #[.agg T,.int .i64 k] w fun e w'=>(∃a' c',e=.returned (.tuple #[.agg (mcs P (up r k (f 0)) (.slice a' (n-1) c')),.int .i64 (f 0),.int .i64 (r k),.bool true])/\Lie w' a' (n-1) c' (tl f)/\Far w.heap.size a')/\Below w.heap.size w w':=by
 have hn64:=hm.out.few.2
 have C1:=fun w=>zba T P r f a n c true hT ⟨fun _=>hm.out,fun _=>rfl⟩ h0 hF hR (by omega) w
 have C2:=zau (k:Int)
 rw[decide_eq_true (⟨by omega,by omega⟩:(1:Int)<=k/\(k:Int)<32)]at C2
 obtain⟨b,o,rfl,hb,hc⟩:=hL.out.sure hn
 have hcR:T[1+k]?=some (.int .i64 (r k)):=by rw[hT.out];exact zfF _ _ _ _ k1
 have HI:Hid ((prog.info? 54).map (·.size)=some T.size):=qI hT.out
 go_enter func116,ntmps116
 go_upto_region 1 with fail
 refine zbb (Φ:=fun W=>Code.wp _ _ _ _ W) ?_
 intro W HR' HZ' HB' hs0
 have HR:Hid (W.heap[w.heap.size]?=some (.cells T 54 (0,0))):=HR'
 have HB:Hid (Below w.heap.size w W):=HB'
 obtain⟨Z,hZ,HZ⟩:∃Z:Array Value,Hid (Z.size=34)/\Hid (W.heap[w.heap.size+1]?=some (.cells Z 54 (0,0))):=⟨zm,zbc,HZ'⟩
 clear HR' HZ' HB'
 go_wp2_with(refine zw (by rfl) 54 _ rfl _ rfl 54 _ (0,0) _ HR.out underlying54 rfl HI.out ?_)
 refine(C1 _ (hL.out.below (Nat.le_refl _) HB.out)).mono ?_
 rintro e W1 ⟨rfl,hk⟩
 have HR1:Hid (W1.heap[w.heap.size]?=some (.cells T 54 (0,0))):=(hk.block _ (zr HR.out)).trans HR.out
 have HZ1:Hid (W1.heap[w.heap.size+1]?=some (.cells Z 54 (0,0))):=(hk.block _ (zr HZ.out)).trans HZ.out
 have HB1:Hid (Below w.heap.size w W1):=HB.out.trans (hk.mono HB.out.size)
 have hs1:w.heap.size+1<W1.heap.size:=zr HZ1.out
 clear hk HR HZ HB hs0 C1
 go_wp2_with fail
 refine(C2 _).mono ?_
 rintro e w' ⟨rfl,rfl⟩
 have c33:w'.cell? ⟨w.heap.size,33,none⟩=some (.slice (some ⟨b,o,none⟩) n c):=(cell_of_row _ w.heap.size _ _ _ _ HR1.out).trans hF
 have cR:w'.cell? ⟨w.heap.size,1+k,none⟩=some (.int .i64 (r k)):=(cell_of_row _ w.heap.size _ _ _ _ HR1.out).trans hcR
 have cF:w'.cell? ⟨b,o,none⟩=some (.int .i64 (f 0)):=(HB1.out.cell (p:=⟨b,o,none⟩) hb).trans (hc 0 hn)
 have hf:∀j,w'.frozen? ⟨w.heap.size,j,none⟩=false:=fun j=>frozen_of_row _ _ j _ _ HR1.out
 clear hc C2
 go_wp2_with fail
 go_region
 go_wp2_with fail
 case inl=>
  have hc1:c=1:=by first|assumption|omega
  subst hc1
  have HB2:Hid (Below w.heap.size w ((w'.setCell ⟨w.heap.size,1+k,none⟩ (.int .i64 (f 0))).drew)):=(HB1.out.setCell (Nat.le_refl _) _).drew
  have HR2:Hid (((w'.setCell ⟨w.heap.size,1+k,none⟩ (.int .i64 (f 0))).drew).heap[w.heap.size]?=some (.cells (T.setIfInBounds (1+k) (.int .i64 (f 0))) 54 (0,0))):=zI HR1.out
  have HZ2:Hid (((w'.setCell ⟨w.heap.size,1+k,none⟩ (.int .i64 (f 0))).drew).heap[w.heap.size+1]?=some (.cells Z 54 (0,0))):=zo HZ1.out (by omega)
  clear HR1 HZ1 c33 cR cF hf HB1 hs1
  generalize (w'.setCell ⟨w.heap.size,1+k,none⟩ (.int .i64 (f 0))).drew=W2 at*
  have hl2:Hid (Lie W2 (some ⟨b,o,none⟩) (n-1) 0 (tl f)):=⟨by have:=hL.out.le;omega,by unfold maxLen;omega,fun h=>(nomatch h),fun i hi=>absurd hi (by have:=hL.out.le;omega),fun x hx _=>⟨b,o,(Option.some.inj hx).symm,fun i hi=>absurd hi (by have:=hL.out.le;omega)⟩⟩
  refine(vh b (o) (n-1) (0) (tl f) (by omega) _ hl2).mono ?_
  rintro e W3 ⟨⟨a',c',rfl,hl,hfar⟩,hk⟩
  have HL3:Hid (Lie W3 a' (n-1) c' (tl f)):=hl
  have HA3:Hid (Far (w.heap.size+2) a'):=hfar.mono (by have:=zr HZ2.out;omega)
  have HR3:Hid (W3.heap[w.heap.size]?=some (.cells (T.setIfInBounds (1+k) (.int .i64 (f 0))) 54 (0,0))):=(hk.block _ (zr HR2.out)).trans HR2.out
  have HZ3:Hid (W3.heap[w.heap.size+1]?=some (.cells Z 54 (0,0))):=(hk.block _ (zr HZ2.out)).trans HZ2.out
  have HB3:Hid (Below w.heap.size w W3):=HB2.out.trans (hk.mono HB2.out.size)
  have hs3:w.heap.size+1<W3.heap.size:=zr HZ3.out
  clear hk hl hfar HR2 HZ2 HB2 hl2
  obtain⟨M,hM⟩:∃M,Hid (M=mcs P (up r k (f 0)) (.slice a' (n-1) c')):=⟨_,rfl⟩
  have eM:(T.setIfInBounds (1+k) (.int .i64 (f 0))).setIfInBounds 33 (.slice a' (n-1) c')=M:=by rw[hM.out,hT.out,zfG _ _ _ _ _ k1,zhm]
  have c33:W3.cell? ⟨w.heap.size,33,none⟩=some (.slice (some ⟨b,o,none⟩) n 1):=(cell_of_row _ w.heap.size _ _ _ _ HR3.out).trans (by rw[hT.out,zfG _ _ _ _ _ k1];rfl)
  have hf:∀j,W3.frozen? ⟨w.heap.size,j,none⟩=false:=fun j=>frozen_of_row _ _ j _ _ HR3.out
  have HR4:Hid ((W3.setCell ⟨w.heap.size,33,none⟩ (.slice a' (n-1) c')).heap[w.heap.size]?=some (.cells M 54 (0,0))):=by rw[<-eM];exact zI HR3.out
  have HZ4:Hid ((W3.setCell ⟨w.heap.size,33,none⟩ (.slice a' (n-1) c')).heap[w.heap.size+1]?=some (.cells Z 54 (0,0))):=zo HZ3.out (by omega)
  have HB4:Hid (Below w.heap.size w (W3.setCell ⟨w.heap.size,33,none⟩ (.slice a' (n-1) c'))):=HB3.out.setCell (Nat.le_refl _) _
  have MI:Hid ((prog.info? 54).map (·.size)=some M.size):=qI hM.out
  have MO:Hid (M.all (·.oneCell')=true):=by show _=_;rw[hM.out];exact xw _ _ _ _ _
  have MZ:Hid (Z.size=M.size):=by show _=_;rw[hM.out,hZ.out];rfl
  clear eM HR3 HZ3 HB3
  go_wp2_with(first|(refine zw (by rfl) 54 _ rfl _ rfl 54 _ (0,0) _ HR4.out underlying54 rfl MI.out ?_)|(refine wpList_store_row rfl 54 _ _ rfl _ _ rfl rfl 54 _ HZ4.out MI.out MZ.out MO.out ?_))
  refine bodyPost_ret (v:=.tuple #[.agg M,.int .i64 (f 0),.int .i64 (r k),.bool true]) ?_ rfl ⟨⟨a',c',by rw[hM.out],?_,HA3.out.mono (by omega)⟩,?_⟩
  ·have L2:=run_loadVar_row (P:=prog) _ _ 54 54 M (0,0) _ (setRow_heap _ _ _ _ _ _ HZ4.out) underlying54 rfl MI.out
   simp[results,results116,asAddr,L2]
  ·refine HL3.out.moved fun x hx=>?_
   have:=HA3.out x hx
   rw[setRow_other _ _ _ _ (by omega)]
   exact zK _ (by omega)
  ·exact zh HB4.out (by omega) _
 case inr=>
  have HB2:Hid (Below w.heap.size w ((w'.setCell ⟨w.heap.size,1+k,none⟩ (.int .i64 (f 0))).drew)):=(HB1.out.setCell (Nat.le_refl _) _).drew
  have HR2:Hid (((w'.setCell ⟨w.heap.size,1+k,none⟩ (.int .i64 (f 0))).drew).heap[w.heap.size]?=some (.cells (T.setIfInBounds (1+k) (.int .i64 (f 0))) 54 (0,0))):=zI HR1.out
  have HZ2:Hid (((w'.setCell ⟨w.heap.size,1+k,none⟩ (.int .i64 (f 0))).drew).heap[w.heap.size+1]?=some (.cells Z 54 (0,0))):=zo HZ1.out (by omega)
  clear HR1 HZ1 c33 cR cF hf HB1 hs1
  generalize (w'.setCell ⟨w.heap.size,1+k,none⟩ (.int .i64 (f 0))).drew=W2 at*
  have hl2:Hid (Lie W2 (some ⟨b,o+1,none⟩) (n-1) (c-1) (tl f)):=by
   have hl1:=hL.out.below (Nat.le_refl _) HB2.out
   refine⟨by have:=hl1.le;omega,by have:=hl1.top;omega,fun h=>(nomatch h),fun i hi=>hl1.wf (i+1) (by omega),fun x hx _=>⟨b,o+1,(Option.some.inj hx).symm,fun i hi=>?_⟩⟩
   obtain⟨b',o',e,hc⟩:=hl1.ad _ rfl hn
   cases e
   have:=hc (i+1) (by omega)
   rw[show o+1+i=o+(i+1) by omega]
   exact this
  refine(vh b (o+1) (n-1) (c-1) (tl f) (by omega) _ hl2).mono ?_
  rintro e W3 ⟨⟨a',c',rfl,hl,hfar⟩,hk⟩
  have HL3:Hid (Lie W3 a' (n-1) c' (tl f)):=hl
  have HA3:Hid (Far (w.heap.size+2) a'):=hfar.mono (by have:=zr HZ2.out;omega)
  have HR3:Hid (W3.heap[w.heap.size]?=some (.cells (T.setIfInBounds (1+k) (.int .i64 (f 0))) 54 (0,0))):=(hk.block _ (zr HR2.out)).trans HR2.out
  have HZ3:Hid (W3.heap[w.heap.size+1]?=some (.cells Z 54 (0,0))):=(hk.block _ (zr HZ2.out)).trans HZ2.out
  have HB3:Hid (Below w.heap.size w W3):=HB2.out.trans (hk.mono HB2.out.size)
  have hs3:w.heap.size+1<W3.heap.size:=zr HZ3.out
  clear hk hl hfar HR2 HZ2 HB2 hl2
  obtain⟨M,hM⟩:∃M,Hid (M=mcs P (up r k (f 0)) (.slice a' (n-1) c')):=⟨_,rfl⟩
  have eM:(T.setIfInBounds (1+k) (.int .i64 (f 0))).setIfInBounds 33 (.slice a' (n-1) c')=M:=by rw[hM.out,hT.out,zfG _ _ _ _ _ k1,zhm]
  have c33:W3.cell? ⟨w.heap.size,33,none⟩=some (.slice (some ⟨b,o,none⟩) n c):=(cell_of_row _ w.heap.size _ _ _ _ HR3.out).trans (by rw[hT.out,zfG _ _ _ _ _ k1];rfl)
  have hf:∀j,W3.frozen? ⟨w.heap.size,j,none⟩=false:=fun j=>frozen_of_row _ _ j _ _ HR3.out
  have HR4:Hid ((W3.setCell ⟨w.heap.size,33,none⟩ (.slice a' (n-1) c')).heap[w.heap.size]?=some (.cells M 54 (0,0))):=by rw[<-eM];exact zI HR3.out
  have HZ4:Hid ((W3.setCell ⟨w.heap.size,33,none⟩ (.slice a' (n-1) c')).heap[w.heap.size+1]?=some (.cells Z 54 (0,0))):=zo HZ3.out (by omega)
  have HB4:Hid (Below w.heap.size w (W3.setCell ⟨w.heap.size,33,none⟩ (.slice a' (n-1) c'))):=HB3.out.setCell (Nat.le_refl _) _
  have MI:Hid ((prog.info? 54).map (·.size)=some M.size):=qI hM.out
  have MO:Hid (M.all (·.oneCell')=true):=by show _=_;rw[hM.out];exact xw _ _ _ _ _
  have MZ:Hid (Z.size=M.size):=by show _=_;rw[hM.out,hZ.out];rfl
  clear eM HR3 HZ3 HB3
  go_wp2_with(first|(refine zw (by rfl) 54 _ rfl _ rfl 54 _ (0,0) _ HR4.out underlying54 rfl MI.out ?_)|(refine wpList_store_row rfl 54 _ _ rfl _ _ rfl rfl 54 _ HZ4.out MI.out MZ.out MO.out ?_))
  refine bodyPost_ret (v:=.tuple #[.agg M,.int .i64 (f 0),.int .i64 (r k),.bool true]) ?_ rfl ⟨⟨a',c',by rw[hM.out],?_,HA3.out.mono (by omega)⟩,?_⟩
  ·have L2:=run_loadVar_row (P:=prog) _ _ 54 54 M (0,0) _ (setRow_heap _ _ _ _ _ _ HZ4.out) underlying54 rfl MI.out
   simp[results,results116,asAddr,L2]
  ·refine HL3.out.moved fun x hx=>?_
   have:=HA3.out x hx
   rw[setRow_other _ _ _ _ (by omega)]
   exact zK _ (by omega)
  ·exact zh HB4.out (by omega) _
theorem Hid.mk'{p:Prop}(h:p):Hid p:=h
theorem zoj(w:World)(a b:Obj):(((w.alloc a).alloc b).drew).heap[w.heap.size]?=some a:=heap_alloc2_old _ _ _
theorem zok(w:World)(a b:Obj):(((w.alloc a).alloc b).drew).heap[w.heap.size+1]?=some b:=heap_alloc2_new _ _ _
theorem zol(w:World)(a b:Obj):Below w.heap.size w (((w.alloc a).alloc b).drew):=(((Below.refl _ _).alloc (Nat.le_refl _) _).alloc (by simp) _).drew
theorem zom(w:World)(a b:Obj):w.heap.size+2<=(((w.alloc a).alloc b).drew).heap.size:=by
 show _<=((w.alloc a).alloc b).heap.size
 simp
theorem zhr(T:Array Value)(P:Int)(r f:Nat->Int)(a:Option Addr)(n c:Nat)(hT:Hid (T=mcs P r (.slice a n c)))(hm:Hid (MayBe P n r f))
  (h0:T[0]?=some (.int .i64 P)) (hF:T[33]?=some (.slice a n c)) (hR:Hid (Rg r)) (x:Int) (hx:Hid (Idle P n r f x)) (w:World) (hL:Hid (Lie w a n c f)):
  Calls prog 64 #[.agg T,.int .i64 x] w fun e w'=>(∃a' c',e=.returned (.tuple #[.agg (mcs P r (.slice a' (n+1) c')),.bool true])/\Lie w' a' (n+1) c' (en f n x)/\Far w.heap.size a')/\Below w.heap.size w w':=by
 have hn64:=hm.out.few.2
 have C1:=fun w=>zba T P r f a n c true hT ⟨fun _=>hm.out,fun _=>rfl⟩ h0 hF hR (by omega) w
 have C3:=fun w=>zcj T P r f a n c x true hT ⟨fun _=>hx.out,fun _=>rfl⟩ h0 hF hR hn64 hm.out.high w
 have HI:Hid ((prog.info? 54).map (·.size)=some T.size):=qI hT.out
 go_enter func64,ntmps64
 go_upto_region 1 with fail
 refine zbb (Φ:=fun W=>Code.wp _ _ _ _ W) ?_
 intro W0 HR' HZ' HB' hs0
 have HR0:Hid (W0.heap[w.heap.size]?=some (.cells T 54 (0,0))):=HR'
 have HB0:Hid (Below w.heap.size w W0):=HB'
 obtain⟨Z,hZ,HZ0⟩:∃Z:Array Value,Hid (Z.size=34)/\Hid (W0.heap[w.heap.size+1]?=some (.cells Z 54 (0,0))):=⟨zm,zbc,HZ'⟩
 clear HR' HZ' HB'
 go_wp2_with(refine zw (by rfl) 54 _ rfl _ rfl 54 _ (0,0) _ HR0.out underlying54 rfl HI.out ?_)
 refine(C1 _ (hL.out.below (Nat.le_refl _) HB0.out)).mono ?_
 rintro e W1 ⟨rfl,hk⟩
 have HR1:Hid (W1.heap[w.heap.size]?=some (.cells T 54 (0,0))):=(hk.block _ (zr HR0.out)).trans HR0.out
 have HZ1:Hid (W1.heap[w.heap.size+1]?=some (.cells Z 54 (0,0))):=(hk.block _ (zr HZ0.out)).trans HZ0.out
 have HB1:Hid (Below w.heap.size w W1):=HB0.out.trans (hk.mono HB0.out.size)
 have hs1:w.heap.size+1<W1.heap.size:=zr HZ1.out
 clear hk HR0 HZ0 HB0 hs0
 go_wp2_with(refine zw (by rfl) 54 _ rfl _ rfl 54 _ (0,0) _ HR1.out underlying54 rfl HI.out ?_)
 refine(C3 _ (hL.out.below (Nat.le_refl _) HB1.out)).mono ?_
 rintro e W2 ⟨rfl,hk⟩
 have HR2:Hid (W2.heap[w.heap.size]?=some (.cells T 54 (0,0))):=(hk.block _ (zr HR1.out)).trans HR1.out
 have HZ2:Hid (W2.heap[w.heap.size+1]?=some (.cells Z 54 (0,0))):=(hk.block _ (zr HZ1.out)).trans HZ1.out
 have HB2:Hid (Below w.heap.size w W2):=HB1.out.trans (hk.mono HB1.out.size)
 have hs2:w.heap.size+1<W2.heap.size:=zr HZ2.out
 clear hk HR1 HZ1 HB1 hs1
 have c33:W2.cell? ⟨w.heap.size,33,none⟩=some (.slice a n c):=(cell_of_row _ w.heap.size _ _ _ _ HR2.out).trans hF
 go_wp2_with fail
 refine zbb (w:=W2) (Φ:=fun W=>Calls _ _ _ W _) ?_
 intro W3 ha hb3 hk hs3
 have l1:Hid (Lie W3 a n c f):=hL.out.below (Nat.le_refl _) (HB2.out.trans (hk.mono HB2.out.size))
 have l2:Hid (Lie W3 (some ⟨W2.heap.size,0,none⟩) 1 1 (fun _=>x)):=by
  refine⟨Nat.le_refl _,by unfold maxLen;omega,fun h=>(nomatch h),fun i hi=>WalkArith.wf_i64 (by have:=hx.out.lo;have:=hx.out.hi;have:=hm.out.high;omega),fun y hy _=>⟨W2.heap.size,0,(Option.some.inj hy).symm,fun i hi=>?_⟩⟩
  obtain rfl:i=0:=by omega
  rw[cell_of_row _ _ _ _ _ _ ha]
  rfl
 have e0:W3.cell? ⟨W2.heap.size+1,0,none⟩=some (.slice a n c):=by rw[cell_of_row _ _ _ _ _ _ hb3];rfl
 have e1:W3.cell? ⟨W2.heap.size+1,1,none⟩=some (.slice (some ⟨W2.heap.size,0,none⟩) 1 1):=by rw[cell_of_row _ _ _ _ _ _ hb3];rfl
 refine(vi (W2.heap.size+1) a (some ⟨W2.heap.size,0,none⟩) n c 1 1 f (fun _=>x) (by omega) (by omega) W3 (by omega) e0 e1 l1 l2).mono ?_
 rintro e W4 ⟨⟨a',c',rfl,hl,hfar⟩,hk4⟩
 have HL4:Hid (Lie W4 a' (n+1) c' (cat f n (fun _=>x))):=hl
 have HA4:Hid (Far (w.heap.size+2) a'):=hfar.mono (by omega)
 clear hl hfar l1 l2 e0 e1 ha hb3 c33
 have HR3:Hid (W3.heap[w.heap.size]?=some (.cells T 54 (0,0))):=(hk.block _ (zr HR2.out)).trans HR2.out
 have HZ3:Hid (W3.heap[w.heap.size+1]?=some (.cells Z 54 (0,0))):=(hk.block _ (zr HZ2.out)).trans HZ2.out
 have HB3:Hid (Below w.heap.size w W3):=HB2.out.trans (hk.mono HB2.out.size)
 have hs3b:w.heap.size+1<W3.heap.size:=zr HZ3.out
 clear hk HR2 HZ2 HB2 hs2 hs3b
 have HR4:Hid (W4.heap[w.heap.size]?=some (.cells T 54 (0,0))):=(hk4.block _ (zr HR3.out)).trans HR3.out
 have HZ4:Hid (W4.heap[w.heap.size+1]?=some (.cells Z 54 (0,0))):=(hk4.block _ (zr HZ3.out)).trans HZ3.out
 have HB4:Hid (Below w.heap.size w W4):=HB3.out.trans (hk4.mono HB3.out.size)
 have hs4:w.heap.size+1<W4.heap.size:=zr HZ4.out
 clear hk4 HR3 HZ3 HB3 hs3
 obtain⟨M,hM⟩:∃M,Hid (M=mcs P r (.slice a' (n+1) c')):=⟨_,rfl⟩
 have eM:T.setIfInBounds 33 (.slice a' (n+1) c')=M:=by rw[hM.out,hT.out,zhm]
 have c33:W4.cell? ⟨w.heap.size,33,none⟩=some (.slice a n c):=(cell_of_row _ w.heap.size _ _ _ _ HR4.out).trans hF
 have hf:∀j,W4.frozen? ⟨w.heap.size,j,none⟩=false:=fun j=>frozen_of_row _ _ j _ _ HR4.out
 have HR5:Hid ((W4.setCell ⟨w.heap.size,33,none⟩ (.slice a' (n+1) c')).heap[w.heap.size]?=some (.cells M 54 (0,0))):=by rw[<-eM];exact(zI HR4.out)
 have HZ5:Hid ((W4.setCell ⟨w.heap.size,33,none⟩ (.slice a' (n+1) c')).heap[w.heap.size+1]?=some (.cells Z 54 (0,0))):=(zo HZ4.out (by omega))
 have HB5:Hid (Below w.heap.size w (W4.setCell ⟨w.heap.size,33,none⟩ (.slice a' (n+1) c'))):=(HB4.out.setCell (Nat.le_refl _) _)
 have MI:Hid ((prog.info? 54).map (·.size)=some M.size):=qI hM.out
 have MO:Hid (M.all (·.oneCell')=true):=by show _=_;rw[hM.out];exact xw _ _ _ _ _
 have MZ:Hid (Z.size=M.size):=by show _=_;rw[hM.out,hZ.out];rfl
 clear eM HR4 HZ4 HB4
 go_wp2_with(first|(refine zw (by rfl) 54 _ rfl _ rfl 54 _ (0,0) _ HR5.out underlying54 rfl MI.out ?_)|(refine wpList_store_row rfl 54 _ _ rfl _ _ rfl rfl 54 _ HZ5.out MI.out MZ.out MO.out ?_))
 refine bodyPost_ret (v:=.tuple #[.agg M,.bool true]) ?_ rfl ⟨⟨a',c',by rw[hM.out],?_,HA4.out.mono (by omega)⟩,?_⟩
 ·have L2:=run_loadVar_row (P:=prog) _ _ 54 54 M (0,0) _ (setRow_heap _ _ _ _ _ _ HZ5.out) underlying54 rfl MI.out
  simp[results,results64,asAddr,L2]
 ·refine HL4.out.moved fun y hy=>?_
  have:=HA4.out y hy
  rw[setRow_other _ _ _ _ (by omega)]
  exact zK _ (by omega)
 ·exact zh HB5.out (by omega) _
def rg(k i:Nat):Int:=if i<k then i else 0
theorem zlM(k:Nat):up (rg k) k k=rg (k+1):=by
 funext i
 unfold up rg
 by_cases h:i=k
 ·subst h;simp
 ·rw[if_neg h]
  by_cases h2:i<k
  ·rw[if_pos h2,if_pos (by omega)]
  ·rw[if_neg h2,if_neg (by omega)]
theorem zhs{P:Int}{r r':Nat->Int}{v:Value}(h:∀i,i<32->r i=r' i):mcs P r v=mcs P r' v:=by
 apply Array.ext_getElem?
 intro i
 by_cases h0:i=0
 ·subst h0;rfl
 ·by_cases h1:i<33
  ·rw[show i=1+(i-1) by omega,zfF _ _ _ _ (by omega),zfF _ _ _ _ (by omega),h _ (by omega)]
  ·by_cases h2:i=33
   ·subst h2;rfl
   ·rw[Array.getElem?_eq_none (by rw[zel];omega),Array.getElem?_eq_none (by rw[zel];omega)]
theorem qV{P:Program}{ops:Array Oper}{rest:List Oper}{o:Oper}{a:Act}{W:World}{Q:Exit->Act->World->Prop}(hgd:o.guard=none)(ty:TypeId)(x y:Operand)(ho:o.op=.store ty x y)
  (cells:Array Value) (t:TypeId) (old:Array Value) (hx:a.eval x=.pointer (some ⟨W.heap.size,0,none⟩)) (hy:a.eval y=.agg cells)
  (hi:(P.info? ty).map (·.size)=some cells.size) (hold:old.size=cells.size) (h1:cells.all (·.oneCell')=true)
  (h:∀V:World,V.heap[W.heap.size]?=some (.cells cells t (0,0))->Below W.heap.size W V->wpList P ops Q rest (a.put o.dst undef) V):wpList P ops Q (o::rest) a (W.alloc (.cells old t (0,0))):=
 wpList_store_row hgd ty x y ho W.heap.size cells hx hy t old (heap_alloc_new _ _) hi hold h1 (h _ (setRow_heap _ _ _ _ _ _ (heap_alloc_new _ _)) (zh ((Below.refl _ _).alloc (Nat.le_refl _) _) (Nat.le_refl _) _))
theorem js{w w':World}{base:Nat}{e:TypeId}{size:Nat}{v:Value}{n:Nat}{xs:List Value}(h:w.ownsRow base e size v n xs)(hb:∀g,v.ownBlock=some g->w'.heap[g]?=w.heap[g]?):w'.ownsRow base e size v n xs:=by
 obtain⟨h1,h2⟩:=h
 refine⟨h1,?_⟩
 rcases h2 with h2|⟨g,cap,cur,hv,hg,hh,r⟩
 ·exact .inl h2
 ·exact .inr ⟨g,cap,cur,hv,hg,(hb g (by rw[hv];rfl)).trans hh,r⟩
theorem jP{w:World}{base:Nat}{e:TypeId}{size:Nat}{v:Value}{n:Nat}{xs:List Value}(h:w.ownsRow base e size v n xs):∃lp lc,v=.slice lp n lc:=by
 rcases h.2 with⟨hv,rfl⟩|⟨g,cap,cur,hv,_⟩
 ·exact⟨_,_,hv⟩
 ·exact⟨_,_,hv⟩
theorem zlN(w:World)(x:Int)(hx:(Lit.int .i64 x).wf=true):Lie (w.alloc (.cells #[.int .i64 x] 3)) (some ⟨w.heap.size,0,none⟩) 1 1 (fun _=>x):=by
 refine⟨Nat.le_refl _,by unfold maxLen;omega,fun h=>(nomatch h),fun i hi=>hx,fun y hy _=>⟨w.heap.size,0,(Option.some.inj hy).symm,fun i hi=>?_⟩⟩
 obtain rfl:i=0:=by omega
 rw[cell_of_row _ _ _ _ _ _ (heap_alloc_new _ _)]
 rfl
theorem zht{w1 w2:World}{o A:Obj}{g e n:Nat}{v:Value}{xs:List Value}(h:w1.heap[g]?=some A)(hown:w1.ownsRow (g+1) e 1 v n xs)(hg:(w1.alloc o).grownBy w2 v.ownBlock):w2.heap[g]?=some A:=by
 have hlt:=zr h
 rw[hg.block g (by simp;omega) (by intro e;have:=(hown.lt g e.symm).1;omega),heap_alloc_old _ _ hlt]
 exact h
theorem zlO{Φ:World->Prop}{w:World}{A:Obj}(h:∀W:World,W.heap[w.heap.size]?=some A->Below w.heap.size w W->W.heap.size=w.heap.size+1->Φ W):Φ (w.alloc A):=
 h _ (heap_alloc_new _ _) ((Below.refl _ _).alloc (Nat.le_refl _) _) (by simp)
theorem zjG(P:Int)(p0:33<=P)(p1:P<=96)(w:World):
  Calls prog 19 #[.int .i64 P] w fun e w'=>(∃a' c',e=.returned (.tuple #[.agg (mcs P (rg P.toNat) (.slice a' (P.toNat-32) c')),.int .i64 0])/\Lie w' a' (P.toNat-32) c' (fun i=>32+i)/\Far w.heap.size a')/\Below w.heap.size w w':=by
 have C1:=vf P
 rw[decide_eq_true ⟨p0,p1⟩]at C1
 obtain⟨i0,hi,hz0,hz1,hz2⟩:=info_parts zjF
 go_enter func19,ntmps19
 go_upto_region 1 with fail
 refine zlO (Φ:=fun W=>Code.wp _ _ _ _ W) ?_
 intro W HZ' HB' hs0
 have HB:Hid (Below w.heap.size w W):=HB'
 obtain⟨Z,hZ,HZ⟩:∃Z:Array Value,Hid (Z.size=34)/\Hid (W.heap[w.heap.size]?=some (.cells Z 54 (0,0))):=⟨zm,zbc,HZ'⟩
 have HS:Hid (W.heap.size=w.heap.size+1):=hs0
 clear HZ' HB' hs0
 go_wp2_with fail
 refine(C1 _).mono ?_
 rintro e w' ⟨rfl,rfl⟩
 go_upto_region 3 with fail
 go_upto_region 4 with(refine qV rfl 54 _ _ rfl (mcs P (rg 0) (.slice none 0 0)) _ _ rfl rfl (qI rfl) rfl (xw _ _ _ _ _) ?_;intro V ha hk)
 have HM:Hid (V.heap[w.heap.size+1]?=some (.cells (mcs P (rg 0) (.slice none 0 0)) 54 (0,0))):=by rw[<-HS.out];exact ha
 have HZ1:Hid (V.heap[w.heap.size]?=some (.cells Z 54 (0,0))):=(hk.block _ (zr HZ.out)).trans HZ.out
 have HB1:Hid (Below w.heap.size w V):=HB.out.trans (hk.mono HB.out.size)
 have hs1:w.heap.size+2<=V.heap.size:=zr HM.out
 rw[HS.out]
 clear ha hk HZ HB HS
 go_wp2_with fail
 generalize Value.agg _=XX
 go_loopw [13] (fun i wr=>∃k:Nat,∃v:Value,k<=P.toNat/\i=.int .i64 k/\Hid (wr.heap[w.heap.size+1]?=some (.cells (mcs P (rg k) v) 54 (0,0)))/\Hid (wr.ownsRow (w.heap.size+2) 3 1 v (k-32) (row (fun i=>32+i) (k-32)))/\Hid (wr.heap[w.heap.size]?=some (.cells Z 54 (0,0)))/\Hid (Below w.heap.size w wr)/\w.heap.size+2<=wr.heap.size)
  (fun i _=>P.toNat-(intOf i).toNat)
 case atStart=>exact⟨0,_,by omega,rfl,HM,World.ownsRow_nil _ _ _ _,HZ1,HB1,hs1⟩
 case round=>
  obtain⟨k,v,hk,rfl,HM,HO,HZ,HB,hs⟩:=hrel
  by_cases hlt:k<P.toNat
  ·have hlt':(k:Int)<P:=by omega
   by_cases h32:k<32
   ·have h32':(k:Int)<32:=by omega
    have ck:wr.cell? ⟨w.heap.size+1,1+k,none⟩=some (.int .i64 (rg k k)):=(cell_of_row _ _ _ _ _ _ HM.out).trans (zfF _ _ _ _ h32)
    have hf:∀j,wr.frozen? ⟨w.heap.size+1,j,none⟩=false:=fun j=>frozen_of_row _ _ j _ _ HM.out
    go_wp2_with fail
    refine⟨⟨k+1,v,by omega,by go_num,?_,?_,?_,?_,?_⟩,by simp[intOf];omega⟩
    ·rw[<-zlM k,<-zfG P (rg k) v k k h32];exact zI HM.out
    ·rw[show k+1-32=k-32 by omega]
     exact js HO.out fun g hg=>zK (b:=w.heap.size+1) _ (by have:=(HO.out.lt g hg).1;omega)
    ·exact zo HZ.out (by omega)
    ·exact HB.out.setCell (Nat.le_succ _) _
    ·simpa using hs
   ·have h32':¬(k:Int)<32:=by omega
    obtain⟨lp,lc,rfl⟩:=jP HO.out
    have c33:wr.cell? ⟨w.heap.size+1,33,none⟩=some (.slice lp (k-32) lc):=(cell_of_row _ _ _ _ _ _ HM.out).trans rfl
    go_wp2_with(at_builtin;go_loud (refine qu _ rfl _ _ 29 rfl (w.heap.size+2) 3 i0 underlying29 hi hz0 hz1 hz2 _ (k-32) (fun i=>32+i) rfl (HO.out.alloc _) _ 1 1 (fun _=>(k:Int)) rfl (zlN wr k (WalkArith.wf_i64 (by omega))) (by omega) (by simp;omega) ?_;intro v1 w1 hown1 hgrow1;obtain⟨lp1,lc1,rfl⟩:=jP hown1;have HM1:=zht HM.out HO.out hgrow1;have hc1:w1.cell? ⟨w.heap.size+1,33,none⟩=some (.slice lp (k-32) lc):=(cell_of_row _ _ _ _ _ _ HM1).trans rfl;have hf1:∀j,w1.frozen? ⟨w.heap.size+1,j,none⟩=false:=fun j=>frozen_of_row _ _ j _ _ HM1))
    refine⟨⟨k+1,.slice lp1 (k-32+1) lc1,by omega,by go_num,?_,?_,?_,?_,?_⟩,by simp[intOf];omega⟩
    ·rw[zhs (r:=rg (k+1)) (r':=rg k) (fun i hi=>by unfold rg;rw[if_pos (by omega),if_pos (by omega)]),<-zhm P (rg k) (.slice lp (k-32) lc)]
     exact zI HM1
    ·have hown2:w1.ownsRow (w.heap.size+2) 3 1 (.slice lp1 (k-32+1) lc1) (k+1-32) (row (fun i=>32+i) (k+1-32)):=by
      rw[ve (f':=cat (fun i=>32+i) (k-32) (fun _=>(k:Int))) (fun i hi=>by unfold cat;split<;>(simp only[]<;>omega)),show k+1-32=k-32+1 by omega]
      exact hown1
     exact js hown2 fun g hg=>zK (b:=w.heap.size+1) _ (by have:=(hown2.lt g hg).1;omega)
    ·exact zo ((hgrow1.block _ (by simp;omega) (by intro e;have:=(HO.out.lt _ e.symm).1;omega)).trans ((heap_alloc_old _ _ (by omega)).trans HZ.out)) (by omega)
    ·exact((HB.out.alloc HB.out.size _).grown hgrow1 (by simp;omega) (fun g hg=>by have:=(HO.out.lt g hg).1;omega)).setCell (Nat.le_succ _) _
    ·have:=hgrow1.size
     simp at this⊢
     omega
  ·have:k=P.toNat:=by omega
   subst this
   have hlt':decide (((P.toNat:Nat):Int)<P)=false:=by simp;omega
   obtain⟨lp,lc,rfl⟩:=jP HO.out
   obtain⟨M,hM⟩:∃M,Hid (M=mcs P (rg P.toNat) (.slice lp (P.toNat-32) lc)):=⟨_,rfl⟩
   have HM':Hid (wr.heap[w.heap.size+1]?=some (.cells M 54 (0,0))):=by rw[hM.out];exact HM
   have MI:Hid ((prog.info? 54).map (·.size)=some M.size):=qI hM.out
   have MO:Hid (M.all (·.oneCell')=true):=by show _=_;rw[hM.out];exact xw _ _ _ _ _
   have MZ:Hid (Z.size=M.size):=by show _=_;rw[hM.out,hZ.out];rfl
   clear HM
   go_wp2_with(first|(refine zw (by rfl) 54 _ rfl _ rfl 54 _ (0,0) _ HM'.out underlying54 rfl MI.out ?_)|(refine wpList_store_row rfl 54 _ _ rfl _ _ rfl rfl 54 _ HZ.out MI.out MZ.out MO.out ?_))
   obtain⟨a',c',e,hl,hfar⟩:=yc HO.out (fun i hi=>WalkArith.wf_i64 (by omega))
   cases e
   refine bodyPost_ret (v:=.tuple #[.agg M,.int .i64 0]) ?_ rfl ⟨⟨lp,lc,by rw[hM.out],?_,hfar.mono (by omega)⟩,?_⟩
   ·have L2:=run_loadVar_row (P:=prog) _ _ 54 54 M (0,0) _ (setRow_heap _ _ _ _ _ _ HZ.out) underlying54 rfl MI.out
    simp[results,results19,asAddr,L2]
   ·refine hl.moved fun y hy=>?_
    have:=hfar y hy
    rw[setRow_other _ _ _ _ (by omega)]
   ·exact zh HB.out (by omega) _
theorem zhu(T:Array Value)(P:Int)(r f:Nat->Int)(a:Option Addr)(n c:Nat)(hT:Hid (T=mcs P r (.slice a n c)))(hm:Hid (MayBe P n r f))
  (h0:T[0]?=some (.int .i64 P)) (hF:T[33]?=some (.slice a n c)) (hR:Hid (Rg r)) (k:Nat) (k0:1<=k) (k1:k<32) (x:Int) (hx:Hid (Idle P n r f x)) (w:World) (hL:Hid (Lie w a n c f)):
  Calls prog 136 #[.agg T,.int .i64 k,.int .i64 x] w fun e w'=>(∃a' c',e=.returned (.tuple #[.agg (mcs P (up r k x) (.slice a' (n+1) c')),.bool true])/\Lie w' a' (n+1) c' (hd (r k) f)/\Far w.heap.size a')/\Below w.heap.size w w':=by
 have hn64:=hm.out.few.2
 have C1:=fun w=>zba T P r f a n c true hT ⟨fun _=>hm.out,fun _=>rfl⟩ h0 hF hR (by omega) w
 have C3:=fun w=>zcj T P r f a n c x true hT ⟨fun _=>hx.out,fun _=>rfl⟩ h0 hF hR hn64 hm.out.high w
 have HI:Hid ((prog.info? 54).map (·.size)=some T.size):=qI hT.out
 have C2:=zau (k:Int)
 rw[decide_eq_true (⟨by omega,by omega⟩:(1:Int)<=k/\(k:Int)<32)]at C2
 have hcR:T[1+k]?=some (.int .i64 (r k)):=by rw[hT.out];exact zfF _ _ _ _ k1
 go_enter func136,ntmps136
 go_upto_region 1 with fail
 refine zbb (Φ:=fun W=>Code.wp _ _ _ _ W) ?_
 intro W0 HR' HZ' HB' hs0
 have HR0:Hid (W0.heap[w.heap.size]?=some (.cells T 54 (0,0))):=HR'
 have HB0:Hid (Below w.heap.size w W0):=HB'
 obtain⟨Z,hZ,HZ0⟩:∃Z:Array Value,Hid (Z.size=34)/\Hid (W0.heap[w.heap.size+1]?=some (.cells Z 54 (0,0))):=⟨zm,zbc,HZ'⟩
 clear HR' HZ' HB'
 go_wp2_with(refine zw (by rfl) 54 _ rfl _ rfl 54 _ (0,0) _ HR0.out underlying54 rfl HI.out ?_)
 refine(C1 _ (hL.out.below (Nat.le_refl _) HB0.out)).mono ?_
 rintro e W1 ⟨rfl,hk⟩
 have HR1:Hid (W1.heap[w.heap.size]?=some (.cells T 54 (0,0))):=(hk.block _ (zr HR0.out)).trans HR0.out
 have HZ1:Hid (W1.heap[w.heap.size+1]?=some (.cells Z 54 (0,0))):=(hk.block _ (zr HZ0.out)).trans HZ0.out
 have HB1:Hid (Below w.heap.size w W1):=HB0.out.trans (hk.mono HB0.out.size)
 have hs1:w.heap.size+1<W1.heap.size:=zr HZ1.out
 clear hk HR0 HZ0 HB0 hs0
 go_wp2_with fail
 refine(C2 _).mono ?_
 rintro e w' ⟨rfl,rfl⟩
 obtain⟨W1,hW1⟩:∃W1,W1=w':=⟨_,rfl⟩
 rw[<-hW1]at HR1 HZ1 HB1 hs1⊢
 clear hW1
 go_wp2_with(refine zw (by rfl) 54 _ rfl _ rfl 54 _ (0,0) _ HR1.out underlying54 rfl HI.out ?_)
 refine(C3 _ (hL.out.below (Nat.le_refl _) HB1.out)).mono ?_
 rintro e W2 ⟨rfl,hk⟩
 have HR2:Hid (W2.heap[w.heap.size]?=some (.cells T 54 (0,0))):=(hk.block _ (zr HR1.out)).trans HR1.out
 have HZ2:Hid (W2.heap[w.heap.size+1]?=some (.cells Z 54 (0,0))):=(hk.block _ (zr HZ1.out)).trans HZ1.out
 have HB2:Hid (Below w.heap.size w W2):=HB1.out.trans (hk.mono HB1.out.size)
 have hs2:w.heap.size+1<W2.heap.size:=zr HZ2.out
 clear hk HR1 HZ1 HB1 hs1
 have c33:W2.cell? ⟨w.heap.size,33,none⟩=some (.slice a n c):=(cell_of_row _ w.heap.size _ _ _ _ HR2.out).trans hF
 have cR:W2.cell? ⟨w.heap.size,1+k,none⟩=some (.int .i64 (r k)):=(cell_of_row _ w.heap.size _ _ _ _ HR2.out).trans hcR
 have C4:∀W3:World,W3.heap[W2.heap.size]?=some (.cells #[.int .i64 (r k)] 3 (0,0))->W3.heap[W2.heap.size+1]?=some (.cells #[.slice (some ⟨W2.heap.size,0,none⟩) 1 1,.slice a n c] 29 (0,0))->Below W2.heap.size W2 W3->W2.heap.size+2<=W3.heap.size->
   Calls prog 90 #[.slice (some ⟨W2.heap.size+1,0,none⟩) 2 2] W3 fun e W4=>∃a' c',e=.returned (.slice a' (1+n) c')/\Hid (Lie W4 a' (1+n) c' (cat (fun _=>r k) 1 f))/\Hid (Far (w.heap.size+2) a')/\Hid (W4.heap[w.heap.size]?=some (.cells T 54 (0,0)))/\Hid (W4.heap[w.heap.size+1]?=some (.cells Z 54 (0,0)))/\Hid (Below w.heap.size w W4)
    /\W4.cell? ⟨w.heap.size,33,none⟩=some (.slice a n c)/\W4.cell? ⟨w.heap.size,1+k,none⟩=some (.int .i64 (r k))/\(∀j,W4.frozen? ⟨w.heap.size,j,none⟩=false):=by
  intro W3 ha hb3 hk hs3
  have l1:Hid (Lie W3 a n c f):=hL.out.below (Nat.le_refl _) (HB2.out.trans (hk.mono HB2.out.size))
  have l2:Hid (Lie W3 (some ⟨W2.heap.size,0,none⟩) 1 1 (fun _=>r k)):=by
   refine⟨Nat.le_refl _,by unfold maxLen;omega,fun h=>(nomatch h),fun i hi=>hR.out k k1,fun y hy _=>⟨W2.heap.size,0,(Option.some.inj hy).symm,fun i hi=>?_⟩⟩
   obtain rfl:i=0:=by omega
   rw[cell_of_row _ _ _ _ _ _ ha]
   rfl
  have e0:W3.cell? ⟨W2.heap.size+1,0,none⟩=some (.slice (some ⟨W2.heap.size,0,none⟩) 1 1):=by rw[cell_of_row _ _ _ _ _ _ hb3];rfl
  have e1:W3.cell? ⟨W2.heap.size+1,1,none⟩=some (.slice a n c):=by rw[cell_of_row _ _ _ _ _ _ hb3];rfl
  refine(vi (W2.heap.size+1) (some ⟨W2.heap.size,0,none⟩) a 1 1 n c (fun _=>r k) f (by omega) (by omega) W3 (by omega) e0 e1 l2 l1).mono ?_
  rintro e W4 ⟨⟨a',c',rfl,hl,hfar⟩,hk4⟩
  have r4:W4.heap[w.heap.size]?=some (.cells T 54 (0,0)):=(hk4.block _ (by omega)).trans ((hk.block _ (by omega)).trans HR2.out)
  have z4:W4.heap[w.heap.size+1]?=some (.cells Z 54 (0,0)):=(hk4.block _ (by omega)).trans ((hk.block _ (by omega)).trans HZ2.out)
  exact⟨a',c',rfl,hl,hfar.mono (by omega),r4,z4,HB2.out.trans ((hk.mono HB2.out.size).trans (hk4.mono (by omega))),(cell_of_row _ w.heap.size _ _ _ _ r4).trans hF,(cell_of_row _ w.heap.size _ _ _ _ r4).trans hcR,fun j=>frozen_of_row _ _ j _ _ r4⟩
 have HC4:=Hid.mk' C4
 have hs2':w.heap.size<W2.heap.size:=by omega
 have hs2b:(W2.cell? ⟨w.heap.size,33,none⟩).isSome=true:=by rw[c33];rfl
 have hs2c:(W2.cell? ⟨w.heap.size,1+k,none⟩).isSome=true:=by rw[cR];rfl
 clear C4 C1 C2 C3
 go_wp2_with fail
 go_region_with (go_at_call 90;refine(HC4.out _ (zoj _ _ _) (zok _ _ _) (zol _ _ _) (zom _ _ _)).mono ?_;rintro e W4 ⟨a',c',rfl,HL4,HA4,HR4,HZ4,HB4,c33,cR,hf⟩)
 all_goals
  have hs4:w.heap.size+1<W4.heap.size:=zr HZ4.out
  obtain⟨M,hM⟩:∃M,Hid (M=mcs P (up r k x) (.slice a' (1+n) c')):=⟨_,rfl⟩
  have eM:(T.setIfInBounds 33 (.slice a' (1+n) c')).setIfInBounds (1+k) (.int .i64 x)=M:=by rw[hM.out,hT.out,zhm,zfG _ _ _ _ _ k1]
  have HR5:Hid (((W4.setCell ⟨w.heap.size,33,none⟩ (.slice a' (1+n) c')).setCell ⟨w.heap.size,1+k,none⟩ (.int .i64 x)).heap[w.heap.size]?=some (.cells M 54 (0,0))):=by rw[<-eM];exact(zI (zI HR4.out))
  have HZ5:Hid (((W4.setCell ⟨w.heap.size,33,none⟩ (.slice a' (1+n) c')).setCell ⟨w.heap.size,1+k,none⟩ (.int .i64 x)).heap[w.heap.size+1]?=some (.cells Z 54 (0,0))):=(zo (zo HZ4.out (by omega)) (by omega))
  have HB5:Hid (Below w.heap.size w ((W4.setCell ⟨w.heap.size,33,none⟩ (.slice a' (1+n) c')).setCell ⟨w.heap.size,1+k,none⟩ (.int .i64 x))):=((HB4.out.setCell (Nat.le_refl _) _).setCell (Nat.le_refl _) _)
  have MI:Hid ((prog.info? 54).map (·.size)=some M.size):=qI hM.out
  have MO:Hid (M.all (·.oneCell')=true):=by show _=_;rw[hM.out];exact xw _ _ _ _ _
  have MZ:Hid (Z.size=M.size):=by show _=_;rw[hM.out,hZ.out];rfl
  clear eM HR4 HZ4 HB4
  go_wp2_with(first|(refine zw (by rfl) 54 _ rfl _ rfl 54 _ (0,0) _ HR5.out underlying54 rfl MI.out ?_)|(refine wpList_store_row rfl 54 _ _ rfl _ _ rfl rfl 54 _ HZ5.out MI.out MZ.out MO.out ?_))
  refine bodyPost_ret (v:=.tuple #[.agg M,.bool true]) ?_ rfl ⟨⟨a',c',by rw[hM.out];rw[Nat.add_comm 1 n],?_,HA4.out.mono (by omega)⟩,?_⟩
  ·have L2:=run_loadVar_row (P:=prog) _ _ 54 54 M (0,0) _ (setRow_heap _ _ _ _ _ _ HZ5.out) underlying54 rfl MI.out
   simp[results,results136,asAddr,L2]
  ·rw[Nat.add_comm n 1]
   refine Lie.congr (f:=cat (fun _=>r k) 1 f) (HL4.out.moved fun y hy=>?_) (fun i _=>by unfold cat hd;by_cases h:i=0<;>simp[h])
   have:=HA4.out y hy
   rw[setRow_other _ _ _ _ (by omega)]
   exact(zK _ (by omega)).trans (zK _ (by omega))
  ·exact zh HB5.out (by omega) _
end Go.Proofs.YtpiohehijkpghabGreatDoor.Re
