/- What the joined texts lack. -/
import Derived.Test.YtpiohehijkpghacGreatDoorE09
open Go renaming setRow_other->Ad,cell_of_row->Ak,heap_alloc2_old->WY,wpAnyH_ready->An,wp_region_held_drew->Ao,wpList_load_row->Aq,wpList_store_row->Ar,setRow_heap->WX,wp_store_row->Au,heap_alloc2_new->Av,wpAnyH_done->Aw,bodyPost_ret->Ax,run_loadVar_row->Ay
open Go.Act renaming put->Ap
open Go.AllReadyH renaming cons->Aj,nil->Am
open Go.RowKit.Below renaming heap_alloc->Ah,refl->WW
open List renaming setIfInBounds_toArray->Aa,set_cons_zero->Ab,set_cons_succ->WZ,getElem_cons_succ->Ae,getElem_cons_zero->Af,getElem_toArray->Ag
open Nat renaming le_refl->Ai
set_option maxHeartbeats 4000000
set_option maxRecDepth 20000
set_option linter.unusedSimpArgs false
set_option linter.unusedVariables false
open Go.Proofs.Tryz
namespace Go.Proofs.YtpiohehijkpghacGreatDoor
open Go.RowKit
open Hy
theorem zdV(H:Array Value)(pc:Int)(p:Option Addr)(n c:Nat)(w:World)(X op I A B:Int)(rd s1 s2 x y:Nat)(C:Array Value)
  (h32:H[32]?=some (.int .u32 pc)) (hA:H[x]?=some (.int .u32 A)) (hB:H[y]?=some (.int .u32 B)) (l1:x<32) (l2:y<32)
  (hC:Hid (C.size=11/\Ones C))
  (CL:∀W,Below w.heap.size w W->Calls prog 98 #[.slice p n c,.int .i64 13,.int .u32 pc] W λe w'=>e=.returned (.tuple #[.int .u32 X,.bool true])/\w'=W)
  (CD:∀W,Below w.heap.size w W->Calls prog 19 #[.int .u32 X] W λe w'=>e=.returned (.tuple #[iv op rd s1 s2 I,.bool true])/\Below W.heap.size W w')
  (CR:∀W,Calls prog 100 #[iv op rd s1 s2 I] W λe w'=>e=.returned (.tuple #[.int .i64 x,.int .i64 y])/\Below W.heap.size W w')
  (CF:∀W,Below w.heap.size w W->Calls prog 90 #[iv op rd s1 s2 I,.int .u32 pc,.int .u32 A,.int .u32 B,.slice p n c] W λe w'=>e=.returned (.agg C)/\Below W.heap.size W w'):
  Calls prog 65 #[.agg H,.slice p n c] w λe w'=>e=.returned (.agg C)/\Below w.heap.size w w':=by
 have g1:(0:Int)<=(x:Int):=by omega
 have g2:(x:Int)<32:=by omega
 have g3:(0:Int)<=(y:Int):=by omega
 have g4:(y:Int)<32:=by omega
 go_enter func65,ntmps65
 go_wp2_with fail
 refine(CL _ (((WW _ _).alloc (Ai _) _).alloc (by simp) _)).mono ?_
 rintro e w' ⟨rfl,rfl⟩
 go_wp2_with fail
 refine(CD _ (((WW _ _).alloc (Ai _) _).alloc (by simp) _)).mono ?_
 rintro e w2 ⟨rfl,hk⟩
 have hs2:=hk.size
 simp at hs2
 have hrow:w2.heap[w.heap.size]?=some (.cells H 27 (0,0)):=(hk.block _ (by simp;omega)).trans (WY _ _ _)
 have hres:w2.heap[w.heap.size+1]?=some (.cells (ccs 0 0 0 0 0 0 0 0 0 false 0) 68 (0,0)):=(hk.block _ (by simp)).trans (Av _ _ _)
 have hb0:Below w.heap.size w w2:=(((WW _ _).alloc (Ai _) _).alloc (by simp) _).trans (hk.mono (by simp;omega))
 have HR:Hid (w2.heap[w.heap.size]?=some (.cells H 27 (0,0))):=hrow
 have HZ:Hid (w2.heap[w.heap.size+1]?=some (.cells (ccs 0 0 0 0 0 0 0 0 0 false 0) 68 (0,0))):=hres
 have hs3:w.heap.size<w2.heap.size:=by omega
 have hs4:w.heap.size+1<w2.heap.size:=by omega
 have HA:Hid (H[x]?=some (.int .u32 A)):=hA
 have HB:Hid (H[y]?=some (.int .u32 B)):=hB
 have H32:Hid (H[32]?=some (.int .u32 pc)):=h32
 clear hk hrow hres hA hB h32 CL CD hs2
 go_wp2_with fail
 refine(CR _).mono ?_
 rintro e W ⟨rfl,hkW⟩
 have hsW:=hkW.size
 simp at hsW
 have r24:W.heap[w2.heap.size]?=some (.cells #[.int .i64 op,.int .i64 rd,.int .i64 s1,.int .i64 s2,.int .i32 I] 78 (0,0)):=(hkW.block _ (by simp)).trans (heap_alloc_new _ _)
 have R38:Hid (W.heap[w.heap.size+1]?=some (.cells (ccs 0 0 0 0 0 0 0 0 0 false 0) 68 (0,0))):=(hkW.block _ (by simp;omega)).trans ((Ah _ _ _ hs4).trans HZ.out)
 have r34:W.heap[w.heap.size]?=some (.cells H 27 (0,0)):=(hkW.block _ (by simp;omega)).trans ((Ah _ _ _ hs3).trans HR.out)
 have hsz:w2.heap.size+1<=W.heap.size:=by omega
 have hb:Below w.heap.size w W:=(hb0.alloc (by omega) _).trans (hkW.mono (by simp;omega))
 have y32:W.cell? ⟨w.heap.size,32,none⟩=some (.int .u32 pc):=(Ak W w.heap.size 32 _ _ _ r34).trans H32.out
 have yA:W.cell? ⟨w.heap.size,x,none⟩=some (.int .u32 A):=(Ak W w.heap.size x _ _ _ r34).trans HA.out
 have yB:W.cell? ⟨w.heap.size,y,none⟩=some (.int .u32 B):=(Ak W w.heap.size y _ _ _ r34).trans HB.out
 have y0:=(Ak W w2.heap.size 0 _ _ _ r24).trans rfl
 have y1:=(Ak W w2.heap.size 1 _ _ _ r24).trans rfl
 have y2:=(Ak W w2.heap.size 2 _ _ _ r24).trans rfl
 have y3:=(Ak W w2.heap.size 3 _ _ _ r24).trans rfl
 have y4:=(Ak W w2.heap.size 4 _ _ _ r24).trans rfl
 have a0:w.heap.size<w2.heap.size+1:=by omega
 have a1:w2.heap.size<w2.heap.size+1:=by omega
 have a2:w.heap.size+1<w2.heap.size+1:=by omega
 clear r24 r34 HR HZ hkW hsW CR HA HB H32
 go_wp2_with fail
 refine Ao (S:=λw'=>∀b,b<w2.heap.size+1->b≠w.heap.size+1->w'.heap[b]?=W.heap[b]?) (by kernel_rfl) (λ_ _ _=>rfl) (λhH=>?_)
 refine Co.tH 0 (.agg #[.int .i64 op,.int .i64 rd,.int .i64 s1,.int .i64 s2,.int .i32 I]) rfl (Or.inl ⟨by rfl,by intro w hSw;have hc0:=qe hSw a1 (by omega) y0;have hc1:=qe hSw a1 (by omega) y1;have hc2:=qe hSw a1 (by omega) y2;have hc3:=qe hSw a1 (by omega) y3;have hc4:=qe hSw a1 (by omega) y4;go_simp⟩) hH ?_
 try simp only[Ap,Aa,Ab,WZ]
 refine Co.tI 1 (.pointer (some ⟨w.heap.size,32,none⟩)) ?_
 try simp only[Ap,Aa,Ab,WZ]
 refine Co.tH 2 (.int .u32 pc) rfl (Or.inl ⟨by rfl,by intro w hSw;have hc:=qe hSw a0 (by omega) y32;go_simp⟩) hH ?_
 try simp only[Ap,Aa,Ab,WZ]
 refine Co.tI 3 (.int .i64 x) ?_
 try simp only[Ap,Aa,Ab,WZ]
 refine Co.tI 4 (.pointer (some ⟨w.heap.size,0,none⟩)) ?_
 try simp only[Ap,Aa,Ab,WZ]
 refine Co.tI 5 (.pointer (some ⟨w.heap.size,x,none⟩)) ?_
 try simp only[Ap,Aa,Ab,WZ]
 refine Co.tH 6 (.int .u32 A) rfl (Or.inl ⟨by rfl,by intro w hSw;have hc:=qe hSw a0 (by omega) yA;go_simp⟩) hH ?_
 try simp only[Ap,Aa,Ab,WZ]
 refine Co.tI 7 (.int .i64 y) ?_
 try simp only[Ap,Aa,Ab,WZ]
 refine Co.tI 8 (.pointer (some ⟨w.heap.size,0,none⟩)) ?_
 try simp only[Ap,Aa,Ab,WZ]
 refine Co.tI 9 (.pointer (some ⟨w.heap.size,y,none⟩)) ?_
 try simp only[Ap,Aa,Ab,WZ]
 refine Co.tH 10 (.int .u32 B) rfl (Or.inl ⟨by rfl,by intro w hSw;have hc:=qe hSw a0 (by omega) yB;go_simp⟩) hH ?_
 try simp only[Ap,Aa,Ab,WZ]
 refine Co.tI 11 (.slice p n c) ?_
 try simp only[Ap,Aa,Ab,WZ]
 refine An (rs:=[12]) (by kernel_rfl) (by simp) ?_
 refine Aj rfl (λK hK=>?_) Am
 go_simp
 refine(CF _ hb.drew).mono ?_
 rintro e w3 ⟨rfl,hk3⟩
 have hB3:Below W.heap.size W w3:=zg hk3 (Ai _)
 go_wp2_with fail
 refine hK.out _ _ (λb hb _=>hB3.block b (by omega)) (λhH=>?_)
 clear hK K
 try simp only[Ap,Aa,Ab,WZ]
 refine An (rs:=[13]) (by kernel_rfl) (by simp) ?_
 refine Aj rfl (λK hK=>?_) Am
 rw[if_pos (by rfl)]
 refine Au 68 _ _ rfl _ _ rfl rfl 68 (ccs 0 0 0 0 0 0 0 0 0 false 0) (zP hB3 (by omega) R38.out) (za.trans (congrArg some hC.out.1.symm)) hC.out.1.symm hC.out.2 ?_
 refine hK.out _ _ (λb hb hn=>(Ad _ _ _ _ hn).trans (hB3.block b (by omega))) (λhH=>?_)
 clear hK K
 refine Aw (by kernel_rfl) ?_ _
 go_wp2_with fail
 exact Ax (v:=.agg C) (results_cell_row results65 _ _ _ 68 _ (0,0) _ rfl (WX _ _ _ _ _ _ (zP hB3 (by omega) R38.out)) underlying68 rfl (za.trans (congrArg some hC.out.1.symm))) rfl ⟨rfl,zc (hb.trans (hB3.mono (by omega))) (by omega) _⟩
def upd(R:Nat->Int)(rd:Nat)(v:Int)(j:Nat):Int:=if rd=0 then R j else if j=rd then v else R j
theorem zp6(R:Nat->Int)(pc st ca x:Int):(hcs R pc st ca).setIfInBounds 32 (.int .u32 x)=hcs R x st ca:=rfl
theorem zp7(R:Nat->Int)(pc st ca x:Int):(hcs R pc st ca).setIfInBounds 33 (.int .i64 x)=hcs R pc x ca:=rfl
theorem zp8(R:Nat->Int)(pc st ca x:Int):(hcs R pc st ca).setIfInBounds 34 (.int .i64 x)=hcs R pc st x:=rfl
theorem zp9(R:Nat->Int)(pc st ca v:Int)(rd:Nat)(h0:rd≠0)(lr:rd<32):(hcs R pc st ca).setIfInBounds rd (.int .u32 v)=hcs (upd R rd v) pc st ca:=by
 rw[Co.yh,Co.yh,Co.jP]
 refine Co.qo λi _=>?_
 unfold Co.hat upd
 rw[if_neg h0]
 by_cases e:i=rd
 ·subst e
  simp[lr]
 ·simp[e]
theorem jh(R:Nat->Int)(pc st ca:Int):Ones (hcs R pc st ca):=by unfold Ones;simp[Value.oneCell']
theorem zdW(R:Nat->Int)(pc st ca:Int)(j:Nat)(hj:j<32):(hcs R pc st ca)[j]?=some (.int .u32 (R j)):=by
 rw[Co.yh,Co.zw _ (by omega)]
 unfold Co.hat
 rw[if_pos hj]
structure Ok(w:World)(R:Nat->Int)(pc:Int)(p:Option Addr)(n c:Nat)(f:Nat->Int):Prop where
 r0:R 0=0
 hR:∀i,i<32->0<=R i/\R i<=4294967295
 p0:0<=pc
 p1:pc<=4294967295
 hn:n<=4096
 hnc:n<=c
 hm:Mem w p n f
 hf:∀i,i<n->0<=f i/\f i<=255
 hT:Tab w
 hT2:Tab2 w
structure Does(n:Nat)(next st ca ri:Int)(rd:Nat)(v ai mi:Int)(a m:Nat)(data:Int):Prop where
 er:ri=(rd:Int)
 ea:ai=(a:Int)
 em:mi=(m:Int)
 lr:rd<32
 hv:rd=0->v=0
 hs:(st=0/\ca=0)\/(st=1/\ca=0)\/(st=2/\1<=ca/\ca<=6)
 hm:m=0\/((m=1\/m=2\/m=4)/\a+m<=n)
 d0:0<=data
 d1:data<=4294967295
 n0:0<=next
 n1:next<=4294967295
 v0:0<=v
 v1:v<=4294967295
def zqa(w:World)(R:Nat->Int)(pc:Int)(p:Option Addr)(n c:Nat)(f:Nat->Int)(next st ca ri:Int)(rd:Nat)(v ai mi:Int)(a m:Nat)(data:Int)(out:Bool)(told:Int):Prop:=
 ∀W,Below w.heap.size w W->Calls prog 36 #[hv R pc 0 0,.slice p n c] W λe w'=>(∃p' cap,e=.returned (.tuple #[cv pc next st ca ri v ai mi data out told,hv (upd R rd v) next st ca,.slice p' n cap,.bool true])/\n<=cap/\Own w' W.heap.size p' n (sto f a data m))/\Below W.heap.size W w'
theorem sto0(f:Nat->Int)(a:Nat)(W:Int):sto f a W 0=f:=by
 funext i
 unfold sto
 rw[if_neg (by omega)]
theorem under{w W W':World}(h:Below w.heap.size w W)(h':Below W.heap.size W W'):Below w.heap.size w W':=h.trans (h'.mono h.size)
theorem zqb{w:World}{R:Nat->Int}{pc:Int}{p:Option Addr}{n c:Nat}{f:Nat->Int}(o:Ok w R pc p n c f){next st ca ri:Int}{rd:Nat}{v ai mi:Int}{a m:Nat}{data:Int}{out:Bool}{told:Int}(d:Does n next st ca ri rd v ai mi a m data)
  (CC:∀W,Below w.heap.size w W->Calls prog 65 #[hv R pc 0 0,.slice p n c] W λe w'=>e=.returned (cv pc next st ca ri v ai mi data out told)/\Below W.heap.size W w'):
  zqa w R pc p n c f next st ca ri rd v ai mi a m data out told:=by
 obtain⟨er,ea,em,lr,hv0,hs,hm,d0,d1,_,_,_,_⟩:=d
 subst er ea em
 intro W hW
 refine ziF (hcs R pc 0 0) (hcs (upd R rd v) next st ca) (ccs pc next st ca rd v a m data out told) pc p n c (sto f a data m) o.hn W rfl ⟨rfl,jh _ _ _ _⟩ ⟨rfl,qv _ _ _ _ _ _ _ _ _ _ _⟩ rfl (λW'=>?_) (λW' hW'=>CC W' (under hW hW')) (λW'=>?_) (λW' hW'=>?_)
 ·refine(zeB (hcs R pc 0 0) (R 0) 0 0 rfl rfl rfl W').mono λe w' ⟨he,hb⟩=>⟨?_,hb⟩
  rw[he,o.r0]
  rfl
 ·by_cases h0:rd=0
  ·subst h0
   exact zci (hcs R pc 0 0) pc next st ca v a m data told out rfl (jh _ _ _ _) ⟨_,rfl⟩ ⟨_,rfl⟩ ⟨_,rfl⟩ W'
  ·refine(zcj (hcs R pc 0 0) pc next st ca v a m data told rd (R rd) out rfl (jh _ _ _ _) ⟨_,rfl⟩ ⟨_,rfl⟩ ⟨_,rfl⟩ (zdW _ _ _ _ _ lr) lr (by simp;omega) W').mono λe w' ⟨he,hb⟩=>⟨?_,hb⟩
   rw[he,zp6,zp7,zp8,zp9 _ _ _ _ _ _ h0 lr]
 ·have hM:=o.hm.below (under hW hW')
  rcases hm with rfl|⟨hm,ham⟩
  ·rw[sto0]
   exact zna p n c f o.hn pc next st ca rd v a data told out W' hM
  ·obtain⟨g,q,rfl,hl⟩:=hM (by omega)
   exact znb g q n c f o.hn a m hm ham data d0 d1 pc next st ca rd v told out W' hl
theorem Ok.bys{w:World}{R:Nat->Int}{pc:Int}{p:Option Addr}{n c:Nat}{f:Nat->Int}(o:Ok w R pc p n c f):Bys w p n c f:=⟨o.hn,o.hnc,o.hm,o.hf⟩
def coms(C:Nat->Array Value):Nat->List Value
 |0=>[]
 |m+1=>coms C m++(C m).toList
structure Stops(st:Nat->Int)(k m:Nat):Prop where
 le:m<=k
 runs:∀j,j<m->st j=0
 end_:m=k\/st m≠0
theorem Stops.one{st:Nat->Int}{k m m':Nat}(h:Stops st k m)(h':Stops st k m'):m=m':=by
 rcases Nat.lt_trichotomy m m' with l|l|l
 ·rcases h.end_ with e|e
  ·have:=h'.le;omega
  ·exact absurd (h'.runs m l) e
 ·exact l
 ·rcases h'.end_ with e|e
  ·have:=h.le;omega
  ·exact absurd (h.runs m' l) e
theorem qJ{w w':World}{base:Nat}{e:TypeId}{size:Nat}{v:Value}{n:Nat}{xs:List Value}(h:w.ownsRow base e size v n xs)(hb:∀g,v.ownBlock=some g->w'.heap[g]?=w.heap[g]?):w'.ownsRow base e size v n xs:=by
 obtain⟨h1,h2⟩:=h
 refine⟨h1,?_⟩
 rcases h2 with h2|⟨g,cap,cur,hv,hg,hh,r⟩
 ·exact .inl h2
 ·exact .inr ⟨g,cap,cur,hv,hg,(hb g (by rw[hv];rfl)).trans hh,r⟩
theorem zcM{w:World}{base base':Nat}{e:TypeId}{size:Nat}{v:Value}{n:Nat}{xs:List Value}(h:w.ownsRow base e size v n xs)(hb:base'<=base):w.ownsRow base' e size v n xs:=by
 obtain⟨h1,h2⟩:=h
 refine⟨h1,?_⟩
 rcases h2 with h2|⟨g,cap,cur,hv,hg,r⟩
 ·exact .inl h2
 ·exact .inr ⟨g,cap,cur,hv,Nat.le_trans hb hg,r⟩
theorem jk{w:World}{base:Nat}{e:TypeId}{size:Nat}{v:Value}{n:Nat}{xs:List Value}(h:w.ownsRow base e size v n xs):∃lp lc,v=.slice lp n lc:=by
 rcases h.2 with⟨hv,rfl⟩|⟨g,cap,cur,hv,_⟩
 ·exact⟨_,_,hv⟩
 ·exact⟨_,_,hv⟩
theorem Own.move{w w':World}{B:Nat}{p:Option Addr}{n:Nat}{f:Nat->Int}(h:Own w B p n f){B':Nat}(hB:B'<=B)(hs:w.heap.size<=w'.heap.size)(hb:∀g,B<=g->g<w.heap.size->w'.heap[g]?=w.heap[g]?):Own w' B' p n f:=λh0=>by
 obtain⟨g,hp,hl⟩:=h h0
 have h1:=hl.base
 have h2:=hl.lt
 exact⟨g,hp,hl.moved (by omega) (hb g h1 h2) hs⟩
theorem xm(w:World)(A B:Obj)(cs:Array Value):(((w.alloc A).alloc B).setRow w.heap.size cs).heap[w.heap.size+1]?=some B:=(Ad _ _ _ _ (by omega)).trans (Av _ _ _)
theorem zdX{H:Array Value}(h:H.size=35):(hcs (λ_=>0) 0 0 0).size=H.size:=h.symm
theorem zkt:(prog.info? 68).map (λi=>(i.zero,i.size,i.bytes))=some (some (cv 0 0 0 0 0 0 0 0 0 false 0),11,64):=by kernel_rfl
theorem zcN(cs:Array Value)(h:cs.size=11)(w:World):(Instr.buildSlice 30 1 #[(0,.agg cs)]).run prog w=.ok (.slice (some ⟨w.heap.size,0,none⟩) 1 1) (w.alloc (.cells cs 68)):=by
 obtain⟨c0,c1,c2,c3,c4,c5,c6,c7,c8,c9,c10,rfl⟩:=zm9 h
 kernel_rfl
theorem zdY{o:Oper}{a:Act}{w:World}{K:Act->World->Prop}{Q:Exit->Act->World->Prop}(x:Operand)(ho:o.op=.buildSlice 30 1 #[(0,x)])(cs:Array Value)(hx:a.eval x=.agg cs)(h11:cs.size=11)
  (h:K (a.put o.dst (.slice (some ⟨w.heap.size,0,none⟩) 1 1)) (w.alloc (.cells cs 68))):o.wp prog a w K Q:=by
 unfold Oper.wp execOp
 simp only[ho,List.map_toArray,List.map_cons,List.map_nil,hx,Sem.run_bind,Sem.run_pure,Result.andThen_ok,zcN cs h11 w]
 exact h
theorem znd(w:World)(cs:Array Value)(t:TypeId):∀j u,cs.toList[j]?=some u->(w.alloc (.cells cs t)).cell? ((⟨w.heap.size,0,none⟩:Addr).add j)=some u:=by
 intro j u hu
 have hadd:(⟨w.heap.size,0,none⟩:Addr).add j=⟨w.heap.size,j,none⟩:=by unfold Addr.add;split<;>simp_all
 rw[hadd,Ak _ w.heap.size j cs t (0,0) (heap_alloc_new w _)]
 simpa using hu
theorem Ones.mem{H:Array Value}(h:Ones H):∀u∈H.toList,u.oneCell'=true:=λu hu=>(Array.all_eq_true_iff_forall_mem.1 h) u (by simpa using hu)
structure Fam(H C:Nat->Array Value)(st:Nat->Int):Prop where
 hH:∀i,(H i).size=35/\Ones (H i)
 hC:∀i,(C i).size=11/\Ones (C i)
 h33:∀i,(H i)[33]?=some (.int .i64 (st i))
theorem zku(H C:Nat->Array Value)(F:Nat->Nat->Int)(st:Nat->Int)(fam:Hid (Fam H C st))(k n c:Nat)(p:Option Addr)(hk:k<=2000)(w:World)
  (CWr:∀W,Calls prog 34 #[.agg (H 0),.slice p n c,.int .i64 k] W λe w'=>e=.returned (.int .i64 0)/\Below W.heap.size W w')
  (CCl:∀W,Below w.heap.size w W->Calls prog 35 #[.slice p n c] W λe w'=>(∃p' cap,e=.returned (.slice p' n cap)/\n<=cap/\Own w' W.heap.size p' n (F 0))/\Below W.heap.size W w')
  (CS:∀i W p c,(∀j,j<i->st j=0)->st i=0->Below w.heap.size w W->n<=c->Mem W p n (F i)->Calls prog 36 #[.agg (H i),.slice p n c] W λe w'=>(∃p' cap,e=.returned (.tuple #[.agg (C i),.agg (H (i+1)),.slice p' n cap,.bool true])/\n<=cap/\Own w' W.heap.size p' n (F (i+1)))/\Below W.heap.size W w')
  (CN:∀i W p c,(∀j,j<i->st j=0)->st i≠0->Calls prog 36 #[.agg (H i),.slice p n c] W λe w'=>e=.returned (.tuple #[cv 0 0 0 0 0 0 0 0 0 false 0,hv (λ_=>0) 0 0 0,.slice none 0 0,.bool false])/\Below W.heap.size W w'):
  Calls prog 17 #[.agg (H 0),.slice p n c,.int .i64 k] w λe w'=>(∃m lp lc p' cap,e=.returned (.tuple #[.slice lp m lc,.agg (H m),.slice p' n cap,.int .i64 0])/\Stops st k m/\w'.ownsRow w.heap.size 68 11 (.slice lp m lc) m (coms C m)/\n<=cap/\Own w' w.heap.size p' n (F m))/\Below w.heap.size w w':=by
 go_enter func17,ntmps17
 go_wp2_with(refine Aq rfl 27 _ rfl _ rfl 27 _ (0,0) _ (WY _ _ _) underlying27 rfl (zW (fam.out.hH 0).1) ?_)
 refine(CWr _).mono ?_
 rintro e w2 ⟨rfl,hk2⟩
 have hs2:=hk2.size
 simp at hs2
 have R34:Hid (w2.heap[w.heap.size]?=some (.cells (H 0) 27 (0,0))):=(hk2.block _ (by simp;omega)).trans (WY _ _ _)
 have RZ:Hid (w2.heap[w.heap.size+1]?=some (.cells (hcs (λ_=>0) 0 0 0) 27 (0,0))):=(hk2.block _ (by simp)).trans (Av _ _ _)
 have hb2:Below w.heap.size w w2:=(((WW _ _).alloc (Ai _) _).alloc (by simp) _).trans (hk2.mono (by simp;omega))
 clear hk2 CWr
 go_wp2_with fail
 refine(CCl _ hb2).mono ?_
 rintro e w3 ⟨⟨p',cap,rfl,hcap,hown⟩,hk3⟩
 have hs3:=hk3.size
 have R34:Hid (w3.heap[w.heap.size]?=some (.cells (H 0) 27 (0,0))):=(hk3.block _ (by omega)).trans R34.out
 have RZ:Hid (w3.heap[w.heap.size+1]?=some (.cells (hcs (λ_=>0) 0 0 0) 27 (0,0))):=(hk3.block _ (by omega)).trans RZ.out
 have hb3:Below w.heap.size w w3:=hb2.trans (hk3.mono (by omega))
 have hM:Hid (Own w3 (w.heap.size+1+1) p' n (F 0)):=hown.move (by omega) (Ai _) (λ_ _ _=>rfl)
 have hs4:w.heap.size+1+1<=w3.heap.size:=by omega
 clear hown hk3 hb2 hs3 hs2
 go_wp2_with fail
 have hs5:Hid (w.heap.size+1+1<=w3.heap.size):=hs4
 have HB3:Hid (Below w.heap.size w w3):=hb3
 clear hb3 hs4
 go_loopw [11,12,28] (λcm lf ct wr=>∃(i:Nat) (q:Option Addr) (cp:Nat),i<=k/\ct=.int .i64 i/\lf=.slice q n cp/\n<=cp/\Hid ((∀j,j<i->st j=0)/\wr.ownsRow (w.heap.size+1+1) 68 11 cm i (coms C i)/\Own wr (w.heap.size+1+1) q n (F i)/\wr.heap[w.heap.size]?=some (.cells (H i) 27 (0,0))/\wr.heap[w.heap.size+1]?=some (.cells (hcs (λ_=>0) 0 0 0) 27 (0,0))/\Below w.heap.size w wr/\w.heap.size+1+1<=wr.heap.size)) (λ_ _ ct _=>k-(intOf ct).toNat)
 case atStart=>exact⟨0,p',cap,Nat.zero_le _,rfl,rfl,hcap,λj hj=>absurd hj (by omega),World.ownsRow_nil _ _ _ _,hM.out,R34.out,RZ.out,HB3.out,hs5.out⟩
 case round=>
  clear RZ R34 hM HB3 hs5 hcap CCl
  obtain⟨i,q,cp,hik,rfl,rfl,hcp,hrel⟩:=hrel
  by_cases hlt:i<k
  ·have hI:Hid ((prog.info? 27).map (·.size)=some (H i).size):=zW (fam.out.hH i).1
   by_cases hst:st i=0
   ·have cs:=CS i wr q cp hrel.out.1 hst hrel.out.2.2.2.2.2.1 hcp hrel.out.2.2.1.mem
    obtain⟨hruns,hown,hM,R34,RZ,hbw,hsz⟩:=hrel
    have R34:Hid (wr.heap[w.heap.size]?=some (.cells (H i) 27 (0,0))):=R34
    have RZ:Hid (wr.heap[w.heap.size+1]?=some (.cells (hcs (λ_=>0) 0 0 0) 27 (0,0))):=RZ
    have hown:Hid (wr.ownsRow (w.heap.size+1+1) 68 11 u11 i (coms C i)):=hown
    have hruns:Hid (∀j,j<i->st j=0):=hruns
    have hbw:Hid (Below w.heap.size w wr):=hbw
    have hC:Hid ((prog.info? 68).map (·.size)=some (C i).size):=za.trans (congrArg some (fam.out.hC i).1.symm)
    have hI1:Hid ((prog.info? 27).map (·.size)=some (H (i+1)).size):=zW (fam.out.hH (i+1)).1
    clear hM CS CN
    go_wp2_with(refine Aq rfl 27 _ rfl _ rfl 27 _ (0,0) _ R34.out underlying27 rfl hI.out ?_)
    refine cs.mono ?_
    rintro e w2 ⟨⟨q',cp',rfl,hcp',hown'⟩,hk2⟩
    have hown':Hid (Own w2 wr.heap.size q' n (F (i+1))):=hown'
    have hk2:Hid (Below wr.heap.size wr w2):=hk2
    clear cs
    have hS1:Hid ((hcs (λ_=>0) 0 0 0).size=(H (i+1)).size):=zdX (fam.out.hH (i+1)).1
    have hO1:Hid (Ones (H (i+1))):=(fam.out.hH (i+1)).2
    go_upto_region 10 with(first
     |(refine Ar rfl 68 _ _ rfl _ _ rfl rfl 68 (ccs 0 0 0 0 0 0 0 0 0 false 0) (WY _ _ _) hC.out (fam.out.hC i).1.symm (fam.out.hC i).2 ?_
       obtain⟨W3,hW3⟩:∃W3:World,Hid (W3=((w2.alloc (.cells (ccs 0 0 0 0 0 0 0 0 0 false 0) 68)).alloc (.cells (hcs (λ_=>0) 0 0 0) 27)).setRow w2.heap.size (C i)):=⟨_,rfl⟩
       have rZ:Hid (W3.heap[w2.heap.size+1]?=some (.cells (hcs (λ_=>0) 0 0 0) 27 (0,0))):=by rw[hW3.out];exact xm _ _ _ _
       rw[<-hW3.out])
     |(refine Ar rfl 27 _ _ rfl _ _ rfl rfl 27 (hcs (λ_=>0) 0 0 0) rZ.out hI1.out hS1.out hO1.out ?_
       obtain⟨W4,hW4⟩:∃W4:World,Hid (W4=W3.setRow (w2.heap.size+1) (H (i+1))):=⟨_,rfl⟩
       rw[<-hW4.out]))
    have k0:w2.heap.size+1+1=W4.heap.size:=by rw[hW4.out,hW3.out];simp
    have k1:wr.heap.size<=w2.heap.size:=hk2.out.size
    have q1:Hid (W4.heap[w2.heap.size]?=some (.cells (C i) 68 (0,0))):=by rw[hW4.out];refine(Ad _ _ _ _ (by omega)).trans ?_;rw[hW3.out];exact WX _ _ _ _ _ _ (WY _ _ _)
    have q2:Hid (W4.heap[w2.heap.size+1]?=some (.cells (H (i+1)) 27 (0,0))):=by rw[hW4.out];exact WX _ _ _ _ _ _ rZ.out
    have old:Hid (∀b,b<w2.heap.size->W4.heap[b]?=w2.heap[b]?):=λb hb=>by
     rw[hW4.out]
     refine(Ad _ _ _ _ (by omega)).trans ?_
     rw[hW3.out]
     refine(Ad _ _ _ _ (by omega)).trans ?_
     rw[Ah _ _ _ (by simp;omega),Ah _ _ _ hb]
    have b4:Hid (Below w.heap.size w W4):=by
     rw[hW4.out,hW3.out]
     exact zc (zc (((hbw.out.trans (hk2.out.mono (by omega))).alloc (by omega) _).alloc (by simp;omega) _) (by omega) _) (by omega) _
    have old2:Hid (∀b,b<wr.heap.size->W4.heap[b]?=wr.heap[b]?):=λb hb=>(old.out b (by omega)).trans (hk2.out.block b hb)
    have q3:Hid (W4.heap[w.heap.size]?=some (.cells (H i) 27 (0,0))):=(old2.out _ (by omega)).trans R34.out
    have q4:Hid (W4.heap[w.heap.size+1]?=some (.cells (hcs (λ_=>0) 0 0 0) 27 (0,0))):=(old2.out _ (by omega)).trans RZ.out
    have q5:Hid (W4.ownsRow (w.heap.size+1+1) 68 11 u11 i (coms C i)):=qJ hown.out (λg hg=>old2.out g (hown.out.lt g hg).2)
    have q6:Hid (∀g,u11.ownBlock=some g->g<wr.heap.size/\w.heap.size+1+1<=g):=λg hg=>⟨(hown.out.lt g hg).2,(hown.out.lt g hg).1⟩
    have q7:Hid (Own W4 wr.heap.size q' n (F (i+1))):=hown'.out.move (Ai _) (by omega) (λg _ hg=>old.out g hg)
    clear hW4 hW3 rZ old old2 hown hown' R34 RZ hbw hk2
    refine Ao (S:=λw'=>w'.heap[w2.heap.size]?=W4.heap[w2.heap.size]?/\w'.heap[w2.heap.size+1]?=W4.heap[w2.heap.size+1]?) (by kernel_rfl) ⟨rfl,rfl⟩ (λhH=>?_)
    refine Co.tI 0 u11 ?_;try go_simp
    refine Co.tH 1 (.agg (C i)) rfl (zb (by rfl) 68 _ rfl _ rfl 68 _ (0,0) _ (λw hSw=>hSw.1.trans q1.out) underlying68 rfl hC.out) hH ?_;try go_simp
    refine Co.tH 4 (.agg (H (i+1))) rfl (zb (by rfl) 27 _ rfl _ rfl 27 _ (0,0) _ (λw hSw=>hSw.2.trans q2.out) underlying27 rfl hI1.out) hH ?_;try go_simp
    refine Co.tI 5 (.slice q' n cp') ?_;try go_simp
    refine An (rs:=[2]) (by kernel_rfl) (by simp) ?_
    refine Aj rfl (λK hK=>?_) Am
    rw[if_pos (by rfl)]
    try simp only[Ag,Ae,Af]
    refine zdY _ rfl (C i) rfl (fam.out.hC i).1 ?_
    refine hK.out _ _ ⟨Ah _ _ _ (by simp;omega),Ah _ _ _ (by simp;omega)⟩ (λhH=>?_)
    clear hK K
    try go_simp
    refine An (rs:=[3]) (by kernel_rfl) (by simp) ?_
    refine Aj rfl (λK hK=>?_) Am
    rw[if_pos (by rfl)]
    obtain⟨i0,hi,hz0,hz1,hz2⟩:=info_parts zkt
    try simp only[Ag,Ae,Af]
    refine wp_append_own _ _ _ 30 rfl (w.heap.size+1+1) 68 i0 _ 11 64 underlying30 hi hz0 hz1 hz2 rfl (by decide) u11 i (coms C i) rfl ?q1 ⟨W4.heap.size,0,none⟩ 1 1 (C i).toList rfl ?q2 ?q3 ?q4 ?q5 ?q6 ?q7 ?q8
    case q1=>exact qJ q5.out (λg hg=>Ah _ _ _ (by have:=(q6.out g hg).1;simp;omega))
    case q2=>simp[(fam.out.hC i).1]
    case q3=>exact znd W4.drew (C i) 68
    case q4=>exact(fam.out.hC i).2.mem
    case q5=>unfold maxLen;omega
    case q6=>omega
    case q7=>simp;omega
    intro v' w5 hown5 hgrow5 _
    have g5:Hid (∀b,b<W4.heap.size->u11.ownBlock≠some b->w5.heap[b]?=W4.heap[b]?):=λb hb hn=>(hgrow5.block b (by simp;omega) (λe=>hn e.symm)).trans (Ah _ _ _ (by simpa using hb))
    have s5:W4.heap.size+1<=w5.heap.size:=by have:=hgrow5.size;simpa using this
    have b5:Hid (Below w.heap.size w w5):=((b4.out.drew).alloc (by simp;omega) _).grown hgrow5 (by simp;omega) (λk hk=>by have:=(q6.out k hk).2;omega)
    have hown5:Hid (w5.ownsRow (w.heap.size+1+1) 68 11 v' (i+1) (coms C (i+1))):=hown5
    clear hgrow5 hi hz0 hz1 hz2
    have e1:w5.heap[w2.heap.size]?=W4.heap[w2.heap.size]?:=g5.out _ (by omega) (λe=>by have:=(q6.out _ e).1;omega)
    have e2:w5.heap[w2.heap.size+1]?=W4.heap[w2.heap.size+1]?:=g5.out _ (by omega) (λe=>by have:=(q6.out _ e).1;omega)
    refine hK.out _ _ ⟨e1,e2⟩ (λhH=>?_)
    clear hK K
    try go_simp
    refine Co.tI 6 (v') ?_;try go_simp
    refine An (rs:=[7]) (by kernel_rfl) (by simp) ?_
    refine Aj rfl (λK hK=>?_) Am
    rw[if_pos (by rfl)]
    try simp only[Ag,Ae,Af]
    refine Au 27 _ _ rfl _ _ rfl rfl 27 (H i) ((g5.out _ (by omega) (λe=>by have:=(q6.out _ e).2;omega)).trans q3.out) hI1.out ((fam.out.hH i).1.trans (fam.out.hH (i+1)).1.symm) hO1.out ?_
    refine hK.out _ _ ⟨(Ad _ _ _ _ (by omega)).trans e1,(Ad _ _ _ _ (by omega)).trans e2⟩ (λhH=>?_)
    clear hK K
    try go_simp
    refine Co.tI 8 (.slice q' n cp') ?_;try go_simp
    refine Aw (by kernel_rfl) ?_ _
    try simp only[Ag,Ae,Af,Ab,WZ]
    obtain⟨W6,hW6⟩:∃W6:World,Hid (W6=w5.setRow w.heap.size (H (i+1))):=⟨_,rfl⟩
    rw[<-hW6.out]
    go_wp2_with fail
    go_roundw
    case rel=>
     refine⟨i+1,q',cp',by omega,by go_num,rfl,hcp',λj hj=>?_,?_,?_,?_,?_,?_,?_⟩
     ·by_cases e:j=i
      ·rw[e];exact hst
      ·exact hruns.out j (by omega)
     ·refine qJ hown5.out (λg hg=>?_)
      have:=(hown5.out.lt g hg).1
      rw[hW6.out]
      exact Ad _ _ _ _ (by omega)
     ·refine q7.out.move (by omega) (by rw[hW6.out];simp;omega) (λg hg hg2=>?_)
      rw[hW6.out]
      exact(Ad _ _ _ _ (by omega)).trans (g5.out g hg2 (λe=>by have:=(q6.out _ e).1;omega))
     ·rw[hW6.out]
      exact WX _ _ _ _ _ _ ((g5.out _ (by omega) (λe=>by have:=(q6.out _ e).2;omega)).trans q3.out)
     ·rw[hW6.out]
      exact(Ad _ _ _ _ (by omega)).trans ((g5.out _ (by omega) (λe=>by have:=(q6.out _ e).2;omega)).trans q4.out)
     ·rw[hW6.out]
      exact zc b5.out (by omega) _
     ·rw[hW6.out]
      simp
      omega
    case measure=>simp[intOf];omega
   ·obtain⟨Z,HZ⟩:∃Z:Array Value,Hid (Z=hcs (λ_=>0) 0 0 0):=⟨_,rfl⟩
    obtain⟨Y,HY⟩:∃Y:Array Value,Hid (Y=ccs 0 0 0 0 0 0 0 0 0 false 0):=⟨_,rfl⟩
    have cn:Calls prog 36 #[.agg (H i),.slice q n cp] wr λe w'=>e=.returned (.tuple #[.agg Y,.agg Z,.slice none 0 0,.bool false])/\Below wr.heap.size wr w':=by
     rw[HY.out,HZ.out]
     exact CN i wr q cp hrel.out.1 hst
    obtain⟨hruns,hown,hM,R34,RZ,hbw,hsz⟩:=hrel
    have R34:Hid (wr.heap[w.heap.size]?=some (.cells (H i) 27 (0,0))):=R34
    have RZ:Hid (wr.heap[w.heap.size+1]?=some (.cells (hcs (λ_=>0) 0 0 0) 27 (0,0))):=RZ
    have hown:Hid (wr.ownsRow (w.heap.size+1+1) 68 11 u11 i (coms C i)):=hown
    have hruns:Hid (∀j,j<i->st j=0):=hruns
    have hbw:Hid (Below w.heap.size w wr):=hbw
    have hM:Hid (Own wr (w.heap.size+1+1) q n (F i)):=hM
    clear CS CN
    go_wp2_with(refine Aq rfl 27 _ rfl _ rfl 27 _ (0,0) _ R34.out underlying27 rfl hI.out ?_)
    refine cn.mono ?_
    rintro e w2 ⟨rfl,hk2⟩
    have hk2:Hid (Below wr.heap.size wr w2):=hk2
    clear cn
    have zI:Hid ((prog.info? 27).map (·.size)=some Z.size):=by rw[HZ.out];exact zq
    have yI:Hid ((prog.info? 68).map (·.size)=some Y.size):=by rw[HY.out];exact za
    have zO:Hid (Ones Z):=by rw[HZ.out];exact jh _ _ _ _
    have yO:Hid (Ones Y):=by rw[HY.out];exact qv _ _ _ _ _ _ _ _ _ _ _
    have zS:Hid ((hcs (λ_=>0) 0 0 0).size=Z.size):=by show _=_;rw[HZ.out]
    have yS:Hid ((ccs 0 0 0 0 0 0 0 0 0 false 0).size=Y.size):=by show _=_;rw[HY.out]
    go_upto_region 9 with(first
     |(refine Ar rfl 68 _ _ rfl _ _ rfl rfl 68 (ccs 0 0 0 0 0 0 0 0 0 false 0) (WY _ _ _) yI.out yS.out yO.out ?_
       obtain⟨W3,hW3⟩:∃W3:World,Hid (W3=((w2.alloc (.cells (ccs 0 0 0 0 0 0 0 0 0 false 0) 68)).alloc (.cells (hcs (λ_=>0) 0 0 0) 27)).setRow w2.heap.size Y):=⟨_,rfl⟩
       have rZ:Hid (W3.heap[w2.heap.size+1]?=some (.cells (hcs (λ_=>0) 0 0 0) 27 (0,0))):=by rw[hW3.out];exact xm _ _ _ _
       rw[<-hW3.out])
     |(refine Ar rfl 27 _ _ rfl _ _ rfl rfl 27 (hcs (λ_=>0) 0 0 0) rZ.out zI.out zS.out zO.out ?_
       obtain⟨W4,hW4⟩:∃W4:World,Hid (W4=W3.setRow (w2.heap.size+1) Z):=⟨_,rfl⟩
       rw[<-hW4.out]))
    go_upto_region 12 with fail
    have k0:w2.heap.size+1+1=W4.heap.size:=by rw[hW4.out,hW3.out];simp
    have k1:wr.heap.size<=w2.heap.size:=hk2.out.size
    have old2:Hid (∀b,b<wr.heap.size->W4.heap[b]?=wr.heap[b]?):=λb hb=>by
     rw[hW4.out]
     refine(Ad _ _ _ _ (by omega)).trans ?_
     rw[hW3.out]
     refine(Ad _ _ _ _ (by omega)).trans ?_
     rw[Ah _ _ _ (by simp;omega),Ah _ _ _ (by omega)]
     exact hk2.out.block b hb
    have b4:Hid (Below w.heap.size w W4):=by
     rw[hW4.out,hW3.out]
     exact zc (zc (((hbw.out.trans (hk2.out.mono (by omega))).alloc (by omega) _).alloc (by simp;omega) _) (by omega) _) (by omega) _
    have q3:Hid (W4.heap[w.heap.size]?=some (.cells (H i) 27 (0,0))):=(old2.out _ (by omega)).trans R34.out
    have q4:Hid (W4.heap[w.heap.size+1]?=some (.cells (hcs (λ_=>0) 0 0 0) 27 (0,0))):=(old2.out _ (by omega)).trans RZ.out
    have q5:Hid (W4.ownsRow (w.heap.size+1+1) 68 11 u11 i (coms C i)):=qJ hown.out (λg hg=>old2.out g (hown.out.lt g hg).2)
    have q7:Hid (Own W4 (w.heap.size+1+1) q n (F i)):=hM.out.move (Ai _) (by omega) (λg _ hg=>old2.out g hg)
    clear hW4 hW3 rZ old2 hown hM R34 RZ hbw hk2 zI yI zO yO zS yS
    refine Ao (S:=λw'=>w'.heap[w.heap.size]?=W4.heap[w.heap.size]?) (by kernel_rfl) rfl (λhH=>?_)
    refine Co.tI 0 u11 ?_;try go_simp
    refine Co.tH 1 (.agg (H i)) rfl (zb (by rfl) 27 _ rfl _ rfl 27 _ (0,0) _ (λw hSw=>hSw.trans q3.out) underlying27 rfl hI.out) hH ?_;try go_simp
    refine Co.tI 2 (.slice q n cp) ?_;try go_simp
    refine Co.tI 3 u11 ?_;try go_simp
    refine An (rs:=[4]) (by kernel_rfl) (by simp) ?_
    refine Aj rfl (λK hK=>?_) Am
    rw[if_pos (by rfl)]
    try simp only[Ag,Ae,Af]
    refine Au 27 _ _ rfl _ _ rfl rfl 27 (hcs (λ_=>0) 0 0 0) q4.out hI.out (zdX (fam.out.hH i).1) (fam.out.hH i).2 ?_
    refine hK.out _ _ (Ad _ _ _ _ (by omega)) (λhH=>?_)
    clear hK K
    try go_simp
    refine Co.tI 5 (.slice q n cp) ?_;try go_simp
    refine Co.tI 6 (.int .i64 0) ?_;try go_simp
    refine Aw (by kernel_rfl) ?_ _
    try simp only[Ag,Ae,Af,Ab,WZ]
    obtain⟨W9,hW9⟩:∃W9:World,Hid (W9=W4.drew.setRow (w.heap.size+1) (H i)):=⟨_,rfl⟩
    rw[<-hW9.out]
    have f2:Hid (W9.heap[w.heap.size+1]?=some (.cells (H i) 27 (0,0))):=by rw[hW9.out];exact WX _ _ _ _ _ _ q4.out
    obtain⟨lp,lc,rfl⟩:=jk q5.out
    go_wp2_with fail
    refine Ax (v:=.tuple #[.slice lp i lc,.agg (H i),.slice q n cp,.int .i64 0]) ?_ rfl ⟨⟨i,lp,lc,q,cp,rfl,?_,?_,hcp,?_⟩,?_⟩
    ·have L2:=Ay (P:=prog) _ _ 27 27 (H i) (0,0) _ f2.out underlying27 rfl hI.out
     simp[results,results17,asAddr,L2]
    ·exact⟨hik,hruns.out,.inr hst⟩
    ·refine zcM (qJ q5.out (λg hg=>?_)) (by omega)
     have:=(q5.out.lt g hg).1
     rw[hW9.out]
     exact Ad _ _ _ _ (by omega)
    ·refine q7.out.move (by omega) (by rw[hW9.out];simp) (λg hg _=>?_)
     rw[hW9.out]
     exact Ad _ _ _ _ (by omega)
    ·rw[hW9.out]
     exact zc b4.out.drew (by omega) _
  ·obtain rfl:i=k:=by omega
   have hI:Hid ((prog.info? 27).map (·.size)=some (H i).size):=zW (fam.out.hH i).1
   obtain⟨hruns,hown,hM,R34,RZ,hbw,hsz⟩:=hrel
   have q3:Hid (wr.heap[w.heap.size]?=some (.cells (H i) 27 (0,0))):=R34
   have q4:Hid (wr.heap[w.heap.size+1]?=some (.cells (hcs (λ_=>0) 0 0 0) 27 (0,0))):=RZ
   have q5:Hid (wr.ownsRow (w.heap.size+1+1) 68 11 u11 i (coms C i)):=hown
   have q7:Hid (Own wr (w.heap.size+1+1) q n (F i)):=hM
   have hruns:Hid (∀j,j<i->st j=0):=hruns
   have b4:Hid (Below w.heap.size w wr):=hbw
   clear CS CN hown hM R34 RZ hbw
   go_upto_region 12 with fail
   refine Ao (S:=λw'=>w'.heap[w.heap.size]?=wr.heap[w.heap.size]?) (by kernel_rfl) rfl (λhH=>?_)
   refine Co.tI 0 u11 ?_;try go_simp
   refine Co.tH 1 (.agg (H i)) rfl (zb (by rfl) 27 _ rfl _ rfl 27 _ (0,0) _ (λw hSw=>hSw.trans q3.out) underlying27 rfl hI.out) hH ?_;try go_simp
   refine Co.tI 2 (.slice q n cp) ?_;try go_simp
   refine Co.tI 3 u11 ?_;try go_simp
   refine An (rs:=[4]) (by kernel_rfl) (by simp) ?_
   refine Aj rfl (λK hK=>?_) Am
   rw[if_pos (by rfl)]
   try simp only[Ag,Ae,Af]
   refine Au 27 _ _ rfl _ _ rfl rfl 27 (hcs (λ_=>0) 0 0 0) q4.out hI.out (zdX (fam.out.hH i).1) (fam.out.hH i).2 ?_
   refine hK.out _ _ (Ad _ _ _ _ (by omega)) (λhH=>?_)
   clear hK K
   try go_simp
   refine Co.tI 5 (.slice q n cp) ?_;try go_simp
   refine Co.tI 6 (.int .i64 0) ?_;try go_simp
   refine Aw (by kernel_rfl) ?_ _
   try simp only[Ag,Ae,Af,Ab,WZ]
   obtain⟨W9,hW9⟩:∃W9:World,Hid (W9=wr.drew.setRow (w.heap.size+1) (H i)):=⟨_,rfl⟩
   rw[<-hW9.out]
   have f2:Hid (W9.heap[w.heap.size+1]?=some (.cells (H i) 27 (0,0))):=by rw[hW9.out];exact WX _ _ _ _ _ _ q4.out
   obtain⟨lp,lc,rfl⟩:=jk q5.out
   go_wp2_with fail
   refine Ax (v:=.tuple #[.slice lp i lc,.agg (H i),.slice q n cp,.int .i64 0]) ?_ rfl ⟨⟨i,lp,lc,q,cp,rfl,?_,?_,hcp,?_⟩,?_⟩
   ·have L2:=Ay (P:=prog) _ _ 27 27 (H i) (0,0) _ f2.out underlying27 rfl hI.out
    simp[results,results17,asAddr,L2]
   ·exact⟨hik,hruns.out,.inl rfl⟩
   ·refine zcM (qJ q5.out (λg hg=>?_)) (by omega)
    have:=(q5.out.lt g hg).1
    rw[hW9.out]
    exact Ad _ _ _ _ (by omega)
   ·refine q7.out.move (by omega) (by rw[hW9.out];simp) (λg hg _=>?_)
    rw[hW9.out]
    exact Ad _ _ _ _ (by omega)
   ·rw[hW9.out]
    exact zc b4.out.drew (by omega) _
theorem zdZ(H:Array Value)(p:Option Addr)(n c:Nat)(K:Int)(hI:Hid (H.size=35))(hl:decide ((4096:Int)<(n:Int))=false)(h0:decide (K<0)=false)(h1:decide (2000<K)=true)
  (CM:∀W,Calls prog 25 #[.agg H] W λe w'=>e=.returned (.bool true)/\Below W.heap.size W w') (w:World):
  Calls prog 34 #[.agg H,.slice p n c,.int .i64 K] w λe w'=>e=.returned (.int .i64 3)/\Below w.heap.size w w':=by
 go_enter func34,ntmps34
 go_wp2_with(refine Aq rfl 27 _ rfl _ rfl 27 _ (0,0) _ (heap_alloc_new _ _) underlying27 rfl (zW hI.out) ?_)
 refine(CM _).mono ?_
 rintro e w2 ⟨rfl,hk⟩
 have hb2:Below w.heap.size w w2:=((WW _ _).alloc (Ai _) _).trans (hk.mono (by simp))
 clear hk CM
 go_wp2_with fail
 go_ret
 exact⟨rfl,hb2⟩
theorem ziG(H:Array Value)(p:Option Addr)(n c:Nat)(K:Int)(hI:Hid (H.size=35))(hl:decide ((4096:Int)<(n:Int))=false)(h0:decide (K<0)=false)(h1:decide (2000<K)=false)
  (CM:∀W,Calls prog 25 #[.agg H] W λe w'=>e=.returned (.bool true)/\Below W.heap.size W w') (w:World):
  Calls prog 34 #[.agg H,.slice p n c,.int .i64 K] w λe w'=>e=.returned (.int .i64 0)/\Below w.heap.size w w':=by
 go_enter func34,ntmps34
 go_wp2_with(refine Aq rfl 27 _ rfl _ rfl 27 _ (0,0) _ (heap_alloc_new _ _) underlying27 rfl (zW hI.out) ?_)
 refine(CM _).mono ?_
 rintro e w2 ⟨rfl,hk⟩
 have hb2:Below w.heap.size w w2:=((WW _ _).alloc (Ai _) _).trans (hk.mono (by simp))
 clear hk CM
 go_wp2_with fail
 go_ret
 exact⟨rfl,hb2⟩
end Go.Proofs.YtpiohehijkpghacGreatDoor
