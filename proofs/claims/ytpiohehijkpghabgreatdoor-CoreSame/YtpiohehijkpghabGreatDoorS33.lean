/- What hart and mem give a core: extended, Trap, Loaded, Behind, Store. -/
import Derived.Deep.MidRow
import Derived.Deep.Cut
import Derived.OwnWalk
import Derived.Test.YtpiohehijkpghabGreatDoorS09
import Derived.Test.YtpiohehijkpghabGreatDoorS30
import Derived.Test.YtpiohehijkpghabGreatDoorS11
import Derived.Test.YtpiohehijkpghabGreatDoorS05
import Derived.Test.YtpiohehijkpghabGreatDoorS03
import Derived.Test.YtpiohehijkpghabGreatDoorS22
import Derived.Test.YtpiohehijkpghabGreatDoorS32
import Derived.Test.YtpiohehijkpghabGreatDoorS04
set_option maxRecDepth 20000
set_option maxHeartbeats 4000000
set_option linter.unusedSimpArgs false
set_option linter.unusedVariables false
open Go.Proofs.Tryz
namespace Go.Proofs.YtpiohehijkpghabGreatDoor.Co
open Go.RowKit
open Hy
open Wi Od Re.Hy
open Gu.Hy (Tb tcs)
theorem qw{P:Program}{ops:Array Oper}{rest:List Oper}{o:Oper}{a:Act}{w:World}{Q:Exit->Act->World->Prop}(hw:Region.wanted o (yielded ops a.tmps)=true)(ty:TypeId)(x:Operand)(ho:o.op=.load ty x)
  (b k:Nat) (hx:a.eval x=.pointer (some ⟨b,k,none⟩)) (cs:Array Value) (d:TypeDesc) (hc:w.rangeAt b k cs.toList)
  (hu:P.underlying ty=some d) (hd:d.isRow=true) (hi:(P.info? ty).map (·.size)=some cs.size)
  (h:wpList P ops Q rest (a.put o.dst (.agg cs)) w):wpList P ops Q (o::rest) a w:=by
 unfold wpList
 rw[if_pos hw]
 exact Or.inl (wp_load_mid ty x ho b k hx cs.toList d hc hu hd (by simpa using hi) h)
theorem zfO{D C H:Array Value}{p:Option Addr}{n c:Nat}(h:Did D C H p n c){w:World}{b:Nat}{t:TypeId}(hr:w.heap[b]?=some (.cells D t (0,0))):w.rangeAt b 0 C.toList:=fun j v hv=>by
 have hj:j<C.size:=by have:=(List.getElem?_eq_some_iff.1 hv).1;simpa using this
 rw[Nat.zero_add,cell_of_row _ _ _ _ _ _ hr,h.is,Array.append_assoc,Array.getElem?_append_left hj]
 simpa using hv
theorem zfP{D C H:Array Value}{p:Option Addr}{n c:Nat}(h:Did D C H p n c){w:World}{b:Nat}{t:TypeId}(hr:w.heap[b]?=some (.cells D t (0,0))):w.rangeAt b 11 H.toList:=fun j v hv=>by
 have hj:j<H.size:=by have:=(List.getElem?_eq_some_iff.1 hv).1;simpa using this
 have hC:=h.hC
 rw[cell_of_row _ _ _ _ _ _ hr,h.is,Array.append_assoc,Array.getElem?_append_right (by omega),show 11+j-C.size=j by omega,Array.getElem?_append_left hj]
 simpa using hv
theorem zhZ{D C H:Array Value}{p:Option Addr}{n c:Nat}(h:Did D C H p n c){w:World}{b:Nat}{t:TypeId}(hr:w.heap[b]?=some (.cells D t (0,0))):w.cell? ⟨b,46,none⟩=some (.slice p n c):=by
 have hC:=h.hC
 have hH:=h.hH
 rw[cell_of_row _ _ _ _ _ _ hr,h.is,Array.getElem?_append_right (by simp;omega)]
 simp[hC,hH]
def coms(C:Nat->Array Value):Nat->List Value
 |0=>[]
 |m+1=>coms C m++(C m).toList
theorem zeA(C:Nat->Array Value)(hC:∀i,(C i).size=11):∀m,(coms C m).length=m*11
 |0=>rfl
 |m+1=>by
  have h:=zeA C hC m
  have h2:=hC m
  simp[coms,h,h2]
  omega
theorem zeB(C:Nat->Array Value)(hC:∀i,(C i).size=11):∀m j i,j<m->i<11->(coms C m)[j*11+i]?=(C j)[i]?
 |0,j,i,h,_=>absurd h (by omega)
 |m+1,j,i,hj,hi=>by
  have hl:=zeA C hC m
  show(coms C m++(C m).toList)[j*11+i]?=_
  by_cases e:j=m
  ·subst e
   rw[List.getElem?_append_right (by omega),hl]
   simp[show j*11+i-j*11=i by omega]
  ·rw[List.getElem?_append_left (by rw[hl];omega)]
   exact zeB C hC m j i (by omega) hi
theorem js{w w':World}{base:Nat}{e:TypeId}{size:Nat}{v:Value}{n:Nat}{xs:List Value}(h:w.ownsRow base e size v n xs)(hb:∀g,v.ownBlock=some g->w'.heap[g]?=w.heap[g]?):w'.ownsRow base e size v n xs:=by
 obtain⟨h1,h2⟩:=h
 refine⟨h1,?_⟩
 rcases h2 with h2|⟨g,cap,cur,hv,hg,hh,r⟩
 ·exact .inl h2
 ·exact .inr ⟨g,cap,cur,hv,hg,(hb g (by rw[hv];rfl)).trans hh,r⟩
theorem zh0{w:World}{base base':Nat}{e:TypeId}{size:Nat}{v:Value}{n:Nat}{xs:List Value}(h:w.ownsRow base e size v n xs)(hb:base'<=base):w.ownsRow base' e size v n xs:=by
 obtain⟨h1,h2⟩:=h
 refine⟨h1,?_⟩
 rcases h2 with h2|⟨g,cap,cur,hv,hg,r⟩
 ·exact .inl h2
 ·exact .inr ⟨g,cap,cur,hv,Nat.le_trans hb hg,r⟩
theorem jP{w:World}{base:Nat}{e:TypeId}{size:Nat}{v:Value}{n:Nat}{xs:List Value}(h:w.ownsRow base e size v n xs):∃lp lc,v=.slice lp n lc:=by
 rcases h.2 with⟨hv,rfl⟩|⟨g,cap,cur,hv,_⟩
 ·exact⟨_,_,hv⟩
 ·exact⟨_,_,hv⟩
theorem zh1{H:Array Value}(h:H.size=35):(hcs (fun _=>0) 0 0 0).size=H.size:=h.symm
theorem zjZ:(prog.info? 64).map (fun i=>(i.zero,i.size,i.bytes))=some (some (cv 0 0 0 0 0 0 0 0 0 false 0),11,64):=by kernel_rfl
theorem zcx(cs:Array Value)(h:cs.size=11)(w:World):(Instr.buildSlice 30 1 #[(0,.agg cs)]).run prog w=.ok (.slice (some ⟨w.heap.size,0,none⟩) 1 1) (w.alloc (.cells cs 64)):=by
 obtain⟨c0,c1,c2,c3,c4,c5,c6,c7,c8,c9,c10,rfl⟩:=zgH h
 kernel_rfl
theorem zdF{o:Oper}{a:Act}{w:World}{K:Act->World->Prop}{Q:Exit->Act->World->Prop}(x:Operand)(ho:o.op=.buildSlice 30 1 #[(0,x)])(cs:Array Value)(hx:a.eval x=.agg cs)(h11:cs.size=11)
  (h:K (a.put o.dst (.slice (some ⟨w.heap.size,0,none⟩) 1 1)) (w.alloc (.cells cs 64))):o.wp prog a w K Q:=by
 unfold Oper.wp execOp
 simp only[ho,List.map_toArray,List.map_cons,List.map_nil,hx,Sem.run_bind,Sem.run_pure,Result.andThen_ok,zcx cs h11 w]
 exact h
theorem vy{ops:Array Oper}{rest:List Oper}{o:Oper}{a:Act}{w:World}{Q:Exit->Act->World->Prop}(hg:o.guard=none)(x:Operand)(ho:o.op=.buildSlice 30 1 #[(0,x)])(cs:Array Value)(hx:a.eval x=.agg cs)(h11:cs.size=11)
  (h:wpList prog ops Q rest (a.put o.dst (.slice (some ⟨w.heap.size,0,none⟩) 1 1)) (w.alloc (.cells cs 64))):wpList prog ops Q (o::rest) a w:=
 wpList_plain hg fun _ hK=>zdF x ho cs hx h11 (hK _ _ h)
theorem zmc(w:World)(cs:Array Value)(t:TypeId):∀j u,cs.toList[j]?=some u->(w.alloc (.cells cs t)).cell? ((⟨w.heap.size,0,none⟩:Addr).add j)=some u:=by
 intro j u hu
 have hadd:(⟨w.heap.size,0,none⟩:Addr).add j=⟨w.heap.size,j,none⟩:=by unfold Addr.add;split<;>simp_all
 rw[hadd,cell_of_row _ w.heap.size j cs t (0,0) (heap_alloc_new w _)]
 simpa using hu
theorem zj0{H:Array Value}(h:Ones H):∀u∈H.toList,u.oneCell'=true:=fun u hu=>(Array.all_eq_true_iff_forall_mem.1 h) u (by simpa using hu)
theorem zbv{w w':World}{p:Option Addr}{n:Nat}{f:Nat->Int}(h:Mem w p n f)(hb:0<n->∀g o,p=some ⟨g,o,none⟩->w'.heap[g]?=w.heap[g]?):Mem w' p n f:=fun h0=>by
 obtain⟨g,o,hp,hl⟩:=h h0
 exact⟨g,o,hp,fun i hi=>(World.cell?_of_block (w:=w) (a:=⟨g,o+i,none⟩) (hb h0 g o hp)).trans (hl i hi)⟩
theorem far{w:World}{n h b:Nat}{f:Nat->Int}(hm:Mem w (some ⟨h,0,none⟩) n f)(h0:0<n){cs:Array Value}{t:TypeId}{fr:Nat×Nat}(hr:w.heap[b]?=some (.cells cs t fr))(hz:∃z,cs[0]?=some (.int .u32 z)):h≠b:=by
 rintro rfl
 obtain⟨g,o,e,hl⟩:=hm h0
 obtain⟨z,hz⟩:=hz
 simp at e
 obtain⟨rfl,rfl⟩:=e
 have:=hl 0 h0
 rw[Nat.add_zero,cell_of_row _ _ _ _ _ _ hr,hz]at this
 simp at this
theorem zfQ{w:World}{base m:Nat}{e:TypeId}{v:Value}{C:Nat->Array Value}(h:w.ownsRow base e 11 v m (coms C m))(hC:∀i,(C i).size=11)(hm:m=0->v=.slice none 0 0){g:Nat}(hg:v.ownBlock=some g):∃cur,w.heap[g]?=some (.cells cur e (0,0))/\cur[0]?=(C 0)[0]?:=by
 rcases h.2 with⟨rfl,_⟩|⟨g',cap,cur,hv,_,hh,hc,_,hs,ht⟩
 ·simp[Value.ownBlock]at hg
 ·rw[hv]at hg
  simp[Value.ownBlock]at hg
  subst hg
  have m0:0<m:=by
   rcases Nat.eq_zero_or_pos m with rfl|h0
   ·rw[hm rfl]at hv
    simp at hv
   ·exact h0
  refine⟨cur,hh,?_⟩
  have a:=zeB C hC m 0 0 m0 (by omega)
  rw[<-ht,List.getElem?_take,if_pos (by omega)]at a
  simpa using a
theorem zh2{w2:World}{B m n:Nat}{f:Nat->Int}{p q:Option Addr}{H Z:Array Value}{C:Nat->Array Value}{v:Value}{tH tZ:TypeId}(hm:Mem w2 q n f)(h0:0<n)(hs:q=p\/∃h,q=some ⟨h,0,none⟩)(hp:0<n->∀g o,p=some ⟨g,o,none⟩->g<B)
  (rH:w2.heap[B]?=some (.cells H tH (0,0))) (zH:∃z,H[0]?=some (.int .u32 z)) (rZ:w2.heap[B+1]?=some (.cells Z tZ (0,0))) (zZ:∃z,Z[0]?=some (.int .u32 z))
  (ho:w2.ownsRow (B+1+1) 64 11 v m (coms C m)) (hC:(∀i,(C i).size=11)/\∃z,(C 0)[0]?=some (.int .u32 z)) (hn:m=0->v=.slice none 0 0):
  ∀g o,q=some ⟨g,o,none⟩->g≠B/\g≠B+1/\v.ownBlock≠some g:=by
 intro g o e
 rcases hs with rfl|⟨h,rfl⟩
 ·have:=hp h0 g o e
  refine⟨by omega,by omega,fun hv=>?_⟩
  have:=(ho.lt g hv).1
  omega
 ·simp at e
  obtain⟨rfl,rfl⟩:=e
  refine⟨far hm h0 rH zH,far hm h0 rZ zZ,fun hv=>?_⟩
  obtain⟨cur,hr,hc⟩:=zfQ ho hC.1 hn hv
  exact far hm h0 hr (by rw[hc];exact hC.2) rfl
theorem zmd(H C:Nat->Array Value)(F:Nat->Nat->Int)(k n c:Nat)(famH:Hid (∀i,(H i).size=35/\Ones (H i)))(famC:Hid (∀i,(C i).size=11/\Ones (C i)))(h33:Hid (∀i,i<k->(H i)[33]?=some (.int .i64 0)))(fam0:Hid (∀i,∃z,(H i)[0]?=some (.int .u32 z)))(fam1:Hid ((∀i,(C i).size=11)/\∃z,(C 0)[0]?=some (.int .u32 z)))(p:Option Addr)(hk:k<=2000)(hnc:n<=c)(w:World)(hM0:Hid (Mem w p n (F 0)))
  (CQ:∀i W q c,i<k->Below w.heap.size w W->n<=c->Mem W q n (F i)->Calls prog 14 #[.agg (H i),.slice q n c] W fun e w'=>(∃D p' cap,e=.returned (.agg D)/\Did D (C i) (H (i+1)) p' n cap/\n<=cap/\Mem w' p' n (F (i+1))/\(p'=q\/∃h,p'=some ⟨h,0,none⟩))/\Below W.heap.size W w'):
  Calls prog 7 #[.agg (H 0),.slice p n c,.int .i64 k] w fun e w'=>(∃lp lc p' cap,e=.returned (.tuple #[.slice lp k lc,.agg (H k),.slice p' n cap])/\w'.ownsRow w.heap.size 64 11 (.slice lp k lc) k (coms C k)/\n<=cap/\Mem w' p' n (F k))/\Below w.heap.size w w':=by
 have hp:Hid (0<n->∀g o,p=some ⟨g,o,none⟩->g<w.heap.size):=fun h0 g o e=>by
  obtain⟨g',o',e',hl⟩:=hM0.out h0
  rw[e]at e'
  simp at e'
  obtain⟨rfl,rfl⟩:=e'
  exact World.block_lt_of_cell? w _ (hl 0 h0)
 go_enter func7,ntmps7
 go_wp2_with fail
 go_loopw [1,9,10] (fun mm cm ct wr=>∃(i:Nat) (q:Option Addr) (cp:Nat),i<=k/\ct=.int .i64 i/\mm=.slice q n cp/\n<=cp/\Hid (wr.ownsRow (w.heap.size+1+1) 64 11 cm i (coms C i)/\(i=0->cm=.slice none 0 0)/\Mem wr q n (F i)/\(q=p\/∃h,q=some ⟨h,0,none⟩)/\wr.heap[w.heap.size]?=some (.cells (H i) 27 (0,0))/\wr.heap[w.heap.size+1]?=some (.cells (hcs (fun _=>0) 0 0 0) 27 (0,0))/\Below w.heap.size w wr/\w.heap.size+1+1<=wr.heap.size)) (fun _ _ ct _=>k-(intOf ct).toNat)
 case atStart=>exact⟨0,p,c,Nat.zero_le _,rfl,rfl,hnc,World.ownsRow_nil _ _ _ _,fun _=>rfl,hM0.out.below (((Below.refl _ _).alloc (Nat.le_refl _) _).alloc (by simp) _),.inl rfl,heap_alloc2_old _ _ _,heap_alloc2_new _ _ _,((Below.refl _ _).alloc (Nat.le_refl _) _).alloc (by simp) _,by simp⟩
 case round=>
  obtain⟨i,q,cp,hik,rfl,rfl,hcp,hrel⟩:=hrel
  have hI:Hid ((prog.info? 27).map (·.size)=some (H i).size):=qi (famH.out i).1
  have cq:=fun h0=>CQ i wr q cp h0 hrel.out.2.2.2.2.2.2.1 hcp hrel.out.2.2.1
  obtain⟨hown,hnil,hM,hsrc,R34,RZ,hbw,hsz⟩:=hrel
  have k33:=fun h=>(cell_of_row wr w.heap.size 33 _ _ _ R34).trans (h33.out i h)
  have q3:Hid (wr.heap[w.heap.size]?=some (.cells (H i) 27 (0,0))):=R34
  have q4:Hid (wr.heap[w.heap.size+1]?=some (.cells (hcs (fun _=>0) 0 0 0) 27 (0,0))):=RZ
  have q5:Hid (wr.ownsRow (w.heap.size+1+1) 64 11 u9 i (coms C i)):=hown
  have q7:Hid (Mem wr q n (F i)):=hM
  have q8:Hid (q=p\/∃h,q=some ⟨h,0,none⟩):=hsrc
  have q9:Hid (i=0->u9=.slice none 0 0):=hnil
  have b4:Hid (Below w.heap.size w wr):=hbw
  clear CQ hown hM hsrc R34 RZ hbw hnil hM0
  by_cases hlt:i<k
  ·have cq:=cq hlt
   have k33:=k33 hlt
   have hI1:Hid ((prog.info? 27).map (·.size)=some (H (i+1)).size):=qi (famH.out (i+1)).1
   have hC:Hid ((prog.info? 64).map (·.size)=some (C i).size):=za.trans (congrArg some (famC.out i).1.symm)
   go_wp2_with(refine wpList_load_row rfl 27 _ rfl _ rfl 27 _ (0,0) _ q3.out underlying27 rfl hI.out ?_)
   refine cq.mono ?_
   rintro e w2 ⟨⟨D,q',cp',rfl,hD,hcp',hM2,hs2⟩,hk2⟩
   have hD:Hid (Did D (C i) (H (i+1)) q' n cp'):=hD
   have hM2:Hid (Mem w2 q' n (F (i+1))):=hM2
   have hs2:Hid (q'=p\/∃h,q'=some ⟨h,0,none⟩):=by
    rcases hs2 with e|e
    ·rw[e];exact q8.out
    ·exact .inr e
   have hk2:Hid (Below wr.heap.size wr w2):=hk2
   clear cq k33
   go_upto_region 6 with(refine wpList_store_row rfl 66 _ _ rfl _ _ rfl rfl 66 _ (heap_alloc_new _ _) hD.out.info hD.out.size.symm hD.out.ones ?_)
   try simp only[Act.put]
   rw[World.setRow_alloc_new]
   obtain⟨W3,hW3⟩:∃W3:World,Hid (W3=w2.alloc (.cells D 66)):=⟨_,rfl⟩
   rw[<-hW3.out]
   have k0:w2.heap.size+1=W3.heap.size:=by rw[hW3.out];simp
   have k1:wr.heap.size<=w2.heap.size:=hk2.out.size
   have rD:Hid (W3.heap[w2.heap.size]?=some (.cells D 66 (0,0))):=by rw[hW3.out];exact heap_alloc_new _ _
   have old:Hid (∀b,b<w2.heap.size->W3.heap[b]?=w2.heap[b]?):=fun b hb=>by rw[hW3.out];exact Below.heap_alloc _ _ _ hb
   have old2:Hid (∀b,b<wr.heap.size->W3.heap[b]?=wr.heap[b]?):=fun b hb=>(old.out b (by omega)).trans (hk2.out.block b hb)
   have b4:Hid (Below w.heap.size w W3):=by rw[hW3.out];exact(b4.out.trans (hk2.out.mono (by omega))).alloc (by omega) _
   have q3:Hid (W3.heap[w.heap.size]?=some (.cells (H i) 27 (0,0))):=(old2.out _ (by omega)).trans q3.out
   have q4:Hid (W3.heap[w.heap.size+1]?=some (.cells (hcs (fun _=>0) 0 0 0) 27 (0,0))):=(old2.out _ (by omega)).trans q4.out
   have q6:Hid (∀g,u9.ownBlock=some g->g<wr.heap.size/\w.heap.size+1+1<=g):=fun g hg=>⟨(q5.out.lt g hg).2,(q5.out.lt g hg).1⟩
   have q5:Hid (W3.ownsRow (w.heap.size+1+1) 64 11 u9 i (coms C i)):=js q5.out (fun g hg=>old2.out g (q5.out.lt g hg).2)
   have q7:Hid (Mem W3 q' n (F (i+1))):=zbv hM2.out (fun h0 g o e=>old.out g (by
    obtain⟨g',o',e',hl⟩:=hM2.out h0
    rw[e]at e'
    simp at e'
    obtain⟨rfl,rfl⟩:=e'
    exact World.block_lt_of_cell? w2 _ (hl 0 h0)))
   have fa:Hid (0<n->∀g o,q'=some ⟨g,o,none⟩->g<W3.heap.size/\g≠w.heap.size/\g≠w.heap.size+1/\u9.ownBlock≠some g):=fun h0 g o e=>⟨by
    obtain⟨g',o',e',hl⟩:=q7.out h0
    rw[e]at e'
    simp at e'
    obtain⟨rfl,rfl⟩:=e'
    exact World.block_lt_of_cell? W3 _ (hl 0 h0),zh2 q7.out h0 hs2.out hp.out q3.out (fam0.out i) q4.out ⟨0,rfl⟩ q5.out (fam1.out) q9.out g o e⟩
   have h11:Hid ((C i).size=11):=(famC.out i).1
   clear hW3 old old2 hM2 q8 hk2 q9
   obtain⟨i0,hi,hz0,hz1,hz2⟩:=info_parts zjZ
   go_wp2_with(first
    |(refine qw (by rfl) 64 _ rfl _ 0 rfl (C i) _ (zfO hD.out rD.out) underlying64 rfl hC.out ?_)
    |(refine vy rfl _ rfl (C i) rfl h11.out ?_)
    |(at_builtin;refine wpList_append_own _ rfl _ _ 30 rfl (w.heap.size+1+1) 64 i0 _ 11 64 underlying30 hi hz0 hz1 hz2 rfl (by decide) u9 i (coms C i) rfl ?q1 ⟨W3.heap.size,0,none⟩ 1 1 (C i).toList rfl ?q2 ?q3 ?q4 ?q5 ?q6 ?q7 ?_))
   case q1=>exact js q5.out (fun g hg=>Below.heap_alloc _ _ _ (by have:=(q6.out g hg).1;omega))
   case q2=>simp[h11.out]
   case q3=>exact zmc W3 (C i) 64
   case q4=>exact zj0 (famC.out i).2
   case q5=>unfold maxLen;omega
   case q6=>omega
   case q7=>simp;omega
   intro v' w5 hown5 hgrow5 _
   have g5:Hid (∀b,b<W3.heap.size->u9.ownBlock≠some b->w5.heap[b]?=W3.heap[b]?):=fun b hb hn=>(hgrow5.block b (by simp;omega) (fun e=>hn e.symm)).trans (Below.heap_alloc _ _ _ hb)
   have s5:W3.heap.size+1<=w5.heap.size:=by have:=hgrow5.size;simpa using this
   have b5:Hid (Below w.heap.size w w5):=(b4.out.alloc (by omega) _).grown hgrow5 (by simp;omega) (fun k hk=>by have:=(q6.out k hk).2;omega)
   have hown5:Hid (w5.ownsRow (w.heap.size+1+1) 64 11 v' (i+1) (coms C (i+1))):=hown5
   have rD5:Hid (w5.heap[w2.heap.size]?=some (.cells D 66 (0,0))):=(g5.out _ (by omega) (fun e=>by have:=(q6.out _ e).1;omega)).trans rD.out
   have r35:Hid (w5.heap[w.heap.size]?=some (.cells (H i) 27 (0,0))):=(g5.out _ (by omega) (fun e=>by have:=(q6.out _ e).2;omega)).trans q3.out
   have hS1:Hid ((H i).size=(H (i+1)).size):=(famH.out i).1.trans (famH.out (i+1)).1.symm
   have hO1:Hid (Ones (H (i+1))):=(famH.out (i+1)).2
   clear hgrow5 hi hz0 hz1 hz2
   go_upto_region 8 with(first
    |(refine qw (by rfl) 27 _ rfl _ 11 rfl (H (i+1)) _ (zfP hD.out rD5.out) underlying27 rfl hI1.out ?_)
    |(refine wpList_store_row rfl 27 _ _ rfl _ _ rfl rfl 27 (H i) r35.out hI1.out hS1.out hO1.out ?_
      obtain⟨W6,hW6⟩:∃W6:World,Hid (W6=w5.setRow w.heap.size (H (i+1))):=⟨_,rfl⟩
      rw[<-hW6.out]))
   have k46:W6.cell? ⟨w2.heap.size,46,none⟩=some (.slice q' n cp'):=zhZ hD.out (by rw[hW6.out];exact(setRow_other _ _ _ _ (by omega)).trans rD5.out)
   go_wp2_with fail
   go_roundw
   case rel=>
    refine⟨i+1,q',cp',by omega,by go_num,rfl,hcp',?_,fun h=>absurd h (by omega),?_,hs2.out,?_,?_,?_,?_⟩
    ·refine js hown5.out (fun g hg=>?_)
     have:=(hown5.out.lt g hg).1
     rw[hW6.out]
     exact setRow_other _ _ _ _ (by omega)
    ·refine zbv q7.out (fun h0 g o e=>?_)
     obtain⟨l1,l2,l3,l4⟩:=fa.out h0 g o e
     rw[hW6.out]
     exact(setRow_other _ _ _ _ l2).trans (g5.out g l1 l4)
    ·rw[hW6.out]
     exact setRow_heap _ _ _ _ _ _ r35.out
    ·rw[hW6.out]
     exact(setRow_other _ _ _ _ (by omega)).trans ((g5.out _ (by omega) (fun e=>by have:=(q6.out _ e).2;omega)).trans q4.out)
    ·rw[hW6.out]
     exact zh b5.out (by omega) _
    ·rw[hW6.out]
     simp
     omega
   case measure=>simp[intOf];omega
  ·obtain rfl:i=k:=by omega
   clear cq k33
   go_upto_region 9 with fail
   refine wp_region_held_drew (S:=fun w'=>w'.heap[w.heap.size]?=wr.heap[w.heap.size]?) (by kernel_rfl) rfl (fun hH=>?_)
   refine tI 0 u9 rfl hH ?_;try go_simp
   refine tH 1 (.agg (H i)) rfl (Re.zc (by rfl) 27 _ rfl _ rfl 27 _ (0,0) _ (fun w hSw=>hSw.trans q3.out) underlying27 rfl hI.out) hH ?_;try go_simp
   refine tI 2 (.slice q n cp) rfl hH ?_;try go_simp
   refine tI 3 u9 rfl hH ?_;try go_simp
   refine wpAnyH_ready (rs:=[4]) (by kernel_rfl) (by simp) ?_
   refine AllReadyH.cons rfl (fun K hK=>?_) AllReadyH.nil
   rw[if_pos (by rfl)]
   simp only[List.getElem_toArray,List.getElem_cons_succ,List.getElem_cons_zero]
   refine wp_store_row 27 _ _ rfl _ _ rfl rfl 27 (hcs (fun _=>0) 0 0 0) q4.out hI.out (zh1 (famH.out i).1) (famH.out i).2 ?_
   refine hK.out _ _ (setRow_other _ _ _ _ (by omega)) (fun hH=>?_)
   clear hK K
   try go_simp
   refine tI 5 (.slice q n cp) rfl hH ?_;try go_simp
   refine wpAnyH_done (by kernel_rfl) ?_ _
   try simp only[List.getElem_toArray,List.getElem_cons_succ,List.getElem_cons_zero,List.set_cons_zero,List.set_cons_succ]
   obtain⟨W9,hW9⟩:∃W9:World,Hid (W9=wr.drew.setRow (w.heap.size+1) (H i)):=⟨_,rfl⟩
   rw[<-hW9.out]
   have f2:Hid (W9.heap[w.heap.size+1]?=some (.cells (H i) 27 (0,0))):=by rw[hW9.out];exact setRow_heap _ _ _ _ _ _ q4.out
   obtain⟨lp,lc,rfl⟩:=jP q5.out
   go_wp2_with fail
   refine bodyPost_ret (v:=.tuple #[.slice lp i lc,.agg (H i),.slice q n cp]) ?_ rfl ⟨⟨lp,lc,q,cp,rfl,?_,hcp,?_⟩,?_⟩
   ·have L2:=run_loadVar_row (P:=prog) _ _ 27 27 (H i) (0,0) _ f2.out underlying27 rfl hI.out
    simp[results,results7,asAddr,L2]
   ·refine zh0 (js q5.out (fun g hg=>?_)) (by omega)
    have:=(q5.out.lt g hg).1
    rw[hW9.out]
    exact setRow_other _ _ _ _ (by omega)
   ·refine zbv q7.out (fun h0 g o e=>?_)
    have:=zh2 q7.out h0 q8.out hp.out q3.out (fam0.out i) q4.out ⟨0,rfl⟩ q5.out (fam1.out) q9.out g o e
    rw[hW9.out]
    exact setRow_other _ _ _ _ this.2.1
   ·rw[hW9.out]
    exact zh b4.out.drew (by omega) _
theorem zn{w w':World}{a:Addr}{v:Value}(hb:Below w.heap.size w w')(h:w.cell? a=some v):w'.cell? a=some v:=(hb.cell (p:=a) (World.block_lt_of_cell? _ _ h)).trans h
theorem jy{w w':World}{b o:Nat}{cs:List Value}(hb:Below w.heap.size w w')(h:w.rangeAt b o cs):w'.rangeAt b o cs:=fun j v hj=>zn hb (h j v hj)
theorem zeC{n:Nat}{x:Int}(h0:0<=x){m:Nat}(hm:m=1\/m=2\/m=4):fits n x m=true↔Fit (m:Int) x.toNat n:=by
 unfold fits Fit
 rw[decide_eq_true_eq,Int.toNat_of_nonneg h0]
 constructor
 ·rintro⟨_,h1,h2⟩
  exact⟨by omega,h1,h2⟩
 ·rintro⟨_,h1,h2⟩
  exact⟨h0,h1,h2⟩
theorem zh3(l:List Ac)(seq:Int):Sure l seq l.length (seeU l seq):=by
 unfold Sure seeU
 rw[List.all_eq_true]
 constructor
 ·intro h j q hj hq
  have:=h q (List.mem_of_getElem? hq)
  simpa using this
 ·intro h q hq
  obtain⟨j,hj,hjq⟩:=List.getElem_of_mem hq
  have:=h j q hj (by rw[List.getElem?_eq_getElem hj,hjq])
  simp[this]
def seeA(s:Cr)(seq x:Int)(m:Nat):Value:=.tuple #[.int .u32 (if fits s.n x m then seeV s.asked seq x m s.f else 0),.bool (fits s.n x m),.bool (fits s.n x m&&seeU s.asked seq)]
theorem cSee{N:Nat}{w:World}{b:Nat}{s:Cr}{L:Sls}(S:St N w b s L)(hok:∀q∈s.asked,q.Ok)(hn:s.asked.length<=100000000)(seq x:Int)(hx:U32 x)(m:Nat)(hm:m=1\/m=2\/m=4)(W:World)(hW:Below w.heap.size w W):
  Calls prog 71 #[L.a,L.m,.int .i64 seq,.int .u32 x,.int .i64 m] W fun e w'=>e=.returned (seeA s seq x m)/\Below W.heap.size W w':=by
 have S:=S.below hW
 obtain⟨a,c,ea⟩:=S.its.ia.slice
 obtain⟨p,mc,em,hB⟩:=S.its.im
 have hU:=S.its.ia
 rw[ea]at hU
 have HL:=hU.lc
 rw[<-xB]at HL
 obtain⟨A,rfl⟩:=Int.eq_ofNat_of_zero_le hx.1
 have hA:A<=4294967295:=by have:=hx.2;omega
 have hml:s.n<=4096:=hB.hn
 rw[ea,em]
 unfold seeA
 by_cases hf:fits s.n A m=true
 ·have hfit:=(zeC (n:=s.n) hx.1 hm).1 hf
  obtain⟨_,h1,h2⟩:=hfit
  rw[Int.toNat_natCast]at h1 h2
  rw[hf,Bool.true_and,if_pos rfl]
  have hmm:A+m<=s.n:=by omega
  obtain⟨g,o,rfl,hl⟩:=hB.hm (by omega)
  refine zjB a s.asked.length c s.asked hok g o s.n mc hB.hnc s.f seq A m hA (by omega) hm (by omega) hmm hB.hf _ (show _=_ from ?_) _ (zh3 _ _) (by omega) W HL hl ?_
  ·unfold seeV
   rw[Int.toNat_natCast,Int.toNat_natCast]
  ·exact World.block_lt_of_cell? _ _ (hl 0 (by omega))
 ·have hnf:¬Fit (m:Int) A s.n:=fun h=>hf ((zeC (n:=s.n) hx.1 hm).2 (by rw[Int.toNat_natCast];exact h))
  have hff:fits s.n A m=false:=by simpa using hf
  rw[hff,Bool.false_and,if_neg (by decide)]
  exact zlK a s.asked.length c p s.n mc seq m A hA (by omega) hnf W
theorem zme{x:Int}(hx:U32 x)(w:World)(ht:Tab w):Calls prog 114 #[.int .u32 x] w fun e w'=>e=.returned (.tuple #[ivI ((dcdM x).getD zin),.bool (dcdM x).isSome])/\Below w.heap.size w w':=by
 have hd:dcdM x=dcdW x:=if_pos hx
 refine(ze2 x hx.1 hx.2 w ht).mono ?_
 rintro e w' ⟨⟨n,n1,n2,hh,hf,rfl⟩|⟨hno,rfl⟩,hb⟩
 ·refine⟨?_,hb⟩
  have h1:=zgS n (by omega) x hx.1 hx.2
  have h2:=zdf n (by omega) x hx.1 hx.2
  have h3:=zdg n (by omega) x hx.1 hx.2
  rw[hd]
  unfold dcdW
  rw[zbY x n n1 hh hf 48 n2]
  simp only[Option.getD_some,Option.isSome_some]
  show Ending.returned (.tuple #[iv n _ _ _ _,_])=Ending.returned (.tuple #[iv _ ((Int.toNat _:Nat):Int) ((Int.toNat _:Nat):Int) ((Int.toNat _:Nat):Int) _,_])
  rw[Int.toNat_of_nonneg h1.1,Int.toNat_of_nonneg h2.1,Int.toNat_of_nonneg h3.1]
 ·refine⟨?_,hb⟩
  rw[hd]
  unfold dcdW
  rw[yT x 48 hno]
  rfl
theorem ke{g:Nat->Int}{m:Nat}(hm:m<=4)(h:∀i,i<m->0<=g i/\g i<=255):U32 (le g m):=by
 unfold U32
 rcases(by omega:m=0\/m=1\/m=2\/m=3\/m=4)with rfl|rfl|rfl|rfl|rfl
 ·simp[le]
 ·have:=h 0 (by omega);simp[le];omega
 ·have:=h 0 (by omega);have:=h 1 (by omega);simp[le];omega
 ·have:=h 0 (by omega);have:=h 1 (by omega);have:=h 2 (by omega);simp[le];omega
 ·have:=h 0 (by omega);have:=h 1 (by omega);have:=h 2 (by omega);have:=h 3 (by omega);simp[le];omega
theorem zh4{s:Cr}{seq x:Int}{m:Nat}(hf:∀i,i<s.n->0<=s.f i/\s.f i<=255)(hm:m<=4)(h:fits s.n x m=true):U32 (seeV s.asked seq x m s.f):=by
 have hp:=jA h
 unfold seeV
 rw[Int.toNat_natCast]
 exact ke hm fun i hi=>zce (hf _ (by omega))
theorem xD{P:Program}{fn:Func}{p u:Tmp}{ty:TypeId}(h:fn.results=#[.cell p ty,.tmp u])(tmps:Array Value)(w:World)(g:Nat)(t:TypeId)(cs:Array Value)(fr:Nat×Nat)(d:TypeDesc)(x:Value)
  (hp:tmps.getD p undef=.pointer (some ⟨g,0,none⟩)) (hx:tmps.getD u undef=x) (hg:w.heap[g]?=some (.cells cs t fr))
  (hu:P.underlying ty=some d) (hd:(match d with|.struct _|.array _ _=>true|_=>false)=true) (hi:(P.info? ty).map (·.size)=some cs.size):
  (results fn tmps).run P w=.ok (.tuple #[.agg cs,x]) w:=by
 have hp':tmps[p]?.getD undef=.pointer (some ⟨g,0,none⟩):=by simpa using hp
 have hx':tmps[u]?.getD undef=x:=by simpa using hx
 simp[results,h,hp',hx',asAddr,run_loadVar_row w g t ty cs fr d hg hu hd hi]
theorem zeD:(prog.info? 77).map (·.size)=some 5:=by kernel_rfl
def ivL(i:In):Array Value:=#[.int .i64 i.op,.int .i64 i.rd,.int .i64 i.s1,.int .i64 i.s2,.int .i32 i.im]
theorem jv(i:In):(prog.info? 77).map (·.size)=some (ivL i).size/\(ivL zin).size=(ivL i).size/\(ivL i).all (·.oneCell')=true:=by
 refine⟨zeD,rfl,?_⟩
 unfold ivL
 simp[Value.oneCell']
theorem yp{w:World}{g:Nat}{cur new:Array Value}{t:TypeId}{fr:Nat×Nat}(h:w.heap[g]?=some (.cells cur t fr)):(w.setRow g new).heap[g]?=some (.cells new t fr):=setRow_heap w g cur new t fr h
theorem below_setRow{B:Nat}{a w:World}{g:Nat}(h:Below B a w)(new:Array Value)(hg:B<=g:=by exact Nat.le_refl _):Below B a (w.setRow g new):=
 h.trans ⟨rfl,rfl,rfl,by simp,fun k hk=>setRow_other w g k _ (by omega)⟩
theorem zh5{N:Nat}{w:World}{b:Nat}{s:Cr}{L:Sls}(S:St N w b s L)(hok:∀q∈s.asked,q.Ok)(hn:s.asked.length<=100000000)(hfro:U32 s.fro):Calls prog 77 #[.pointer (some ⟨b,0,none⟩),.int .i64 s.tak] w fun e w'=>e=.returned (.tuple #[ivI (rdI mach s).1,.int .i64 (rdI mach s).2])/\Below w.heap.size w w':=by
 have CS0:=fun W hW=>cSee S hok hn s.tak s.fro hfro 4 (by omega) W hW
 obtain⟨a,c,ea⟩:=S.its.ia.slice
 obtain⟨p,mc,em,hB⟩:=S.its.im
 have k335:w.cell? ⟨b,335,none⟩=some (.slice a s.asked.length c):=(zb S.row (by omega)).trans (congrArg some ea)
 have k39:w.cell? ⟨b,39,none⟩=some (.slice p s.n mc):=(zb S.row (by omega)).trans (congrArg some em)
 have k337:w.cell? ⟨b,337,none⟩=some (.int .u32 s.fro):=(zb S.row (by omega)).trans rfl
 have hb:b<w.heap.size:=(Array.getElem?_eq_some_iff.1 S.row).1
 have HT:Hid (Tab w):=S.its.tb
 have e4:((4:Nat):Int)=4:=rfl
 unfold seeA at CS0
 rw[ea,em,e4]at CS0
 have HF:=hB.hf
 cases hf:fits s.n s.fro 4 with
 |false=>
  have e1:rdI mach s=(zin,1):=by unfold rdI;rw[if_neg (by rw[hf];decide)]
  rw[e1]
  rw[hf]at CS0
  simp only[Bool.false_and,if_neg Bool.false_ne_true]at CS0
  have CS:Hid (∀W,Below w.heap.size w W->Calls prog 71 #[.slice a s.asked.length c,.slice p s.n mc,.int .i64 s.tak,.int .u32 s.fro,.int .i64 4] W fun e w'=>e=.returned (.tuple #[.int .u32 0,.bool false,.bool false])/\Below W.heap.size W w'):=CS0
  generalize s.asked.length=n at*
  generalize s.n=ml at*
  generalize s.fro=x at*
  generalize s.tak=q at*
  clear CS0 S hok hB ea em e1 hf HF
  go_enter func77,ntmps77
  go_upto_region 1 with fail
  refine Wi.zA (Φ:=fun W=>Code.wp _ _ _ _ W) ?_
  intro V hV hVb
  have k335:=zn hVb k335
  have k39:=zn hVb k39
  have k337:=zn hVb k337
  have HVb:Hid (Below w.heap.size w V):=hVb
  have HV:Hid (V.heap[w.heap.size]?=some (.cells #[.int .i64 0,.int .i64 0,.int .i64 0,.int .i64 0,.int .i32 0] 77 (0,0))):=hV
  clear hV hVb
  refine wp_region_held_drew (S:=fun w'=>w'.cell? ⟨b,335,none⟩=some (.slice a n c)/\w'.cell? ⟨b,39,none⟩=some (.slice p ml mc)/\w'.cell? ⟨b,337,none⟩=some (.int .u32 x)) (by kernel_rfl) (⟨k335,k39,k337⟩) (fun hH=>?_)
  refine tI 0 (.pointer (some ⟨b,0,none⟩)) rfl hH ?_;try go_simp
  refine tI 1 (.pointer (some ⟨b,0,none⟩)) rfl hH ?_;try go_simp
  refine tI 2 (.pointer (some ⟨b,335,none⟩)) rfl hH ?_;try go_simp
  refine tH 3 (.slice a n c) rfl (Or.inl ⟨by rfl,by intro wz hSw;have hc:=hSw.1;go_simp⟩) hH ?_;try go_simp
  refine tI 4 (.pointer (some ⟨b,0,none⟩)) rfl hH ?_;try go_simp
  refine tI 5 (.pointer (some ⟨b,0,none⟩)) rfl hH ?_;try go_simp
  refine tI 6 (.pointer (some ⟨b,3,none⟩)) rfl hH ?_;try go_simp
  refine tI 7 (.pointer (some ⟨b,39,none⟩)) rfl hH ?_;try go_simp
  refine tH 8 (.slice p ml mc) rfl (Or.inl ⟨by rfl,by intro wz hSw;have hc:=hSw.2.1;go_simp⟩) hH ?_;try go_simp
  refine tI 9 (.int .i64 q) rfl hH ?_;try go_simp
  refine tI 10 (.pointer (some ⟨b,0,none⟩)) rfl hH ?_;try go_simp
  refine tI 11 (.pointer (some ⟨b,0,none⟩)) rfl hH ?_;try go_simp
  refine tI 12 (.pointer (some ⟨b,337,none⟩)) rfl hH ?_;try go_simp
  refine tH 13 (.int .u32 x) rfl (Or.inl ⟨by rfl,by intro wz hSw;have hc:=hSw.2.2;go_simp⟩) hH ?_;try go_simp
  refine wpAnyH_ready (rs:=[14]) (by kernel_rfl) (by simp) ?_
  refine AllReadyH.cons rfl (fun K hK=>?_) AllReadyH.nil
  go_simp
  refine(CS.out _ (HVb.out.trans ((Below.refl _ _).drew))).mono ?_
  rintro e V1 ⟨rfl,hk⟩
  have HB1:Hid (Below V.heap.size V V1):=zi hk (Nat.le_refl _)
  go_wp2_with fail
  refine hK.out _ _ (⟨zn hk (hH.1),zn hk (hH.2.1),zn hk (hH.2.2)⟩) (fun hH=>?_)
  clear hK K
  try go_simp
  refine tI 15 (.tuple #[.int .u32 0,.bool false,.bool false]) rfl hH ?_;try go_simp
  refine tI 16 (.int .u32 0) rfl hH ?_;try go_simp
  refine tI 17 (.bool false) rfl hH ?_;try go_simp
  refine tI 18 (.bool false) rfl hH ?_;try go_simp
  refine tI 19 (.int .u32 0) rfl hH ?_;try go_simp
  refine tI 20 (.bool false) rfl hH ?_;try go_simp
  refine tI 21 (.bool false) rfl hH ?_;try go_simp
  refine wpAnyH_done (by kernel_rfl) ?_ _
  have HF1:Hid (Below w.heap.size w V1):=HVb.out.trans (HB1.out.mono HVb.out.size)
  have HR:Hid (V1.heap[w.heap.size]?=some (.cells (ivL zin) 77 (0,0))):=(HB1.out.block _ (zr HV.out)).trans HV.out
  clear hH HVb HV HB1 k335 k39 k337 CS hk
  go_wp2_with(refine wpList_store_row rfl 77 _ _ rfl _ _ rfl rfl 77 _ HR.out (jv zin).1 (jv zin).2.1 (jv zin).2.2 ?_)
  exact bodyPost_ret (v:=.tuple #[ivI zin,.int .i64 1]) (xD results77 _ _ _ 77 _ (0,0) _ _ rfl rfl (yp HR.out) underlying77 rfl (jv zin).1) rfl ⟨rfl,below_setRow HF1.out _⟩
 |true=>
  have hy:U32 (seeV s.asked s.tak s.fro 4 s.f):=zh4 (m:=4) hB.hf (by omega) hf
  rw[hf]at CS0
  simp only[Bool.true_and,if_true]at CS0
  have e1:rdI mach s=(match dcdM (seeV s.asked s.tak s.fro 4 s.f)with|some i=>(i,0)|none=>(zin,2)):=by unfold rdI;rw[if_pos hf];rfl
  rw[e1]
  have CS:Hid (∀W,Below w.heap.size w W->Calls prog 71 #[.slice a s.asked.length c,.slice p s.n mc,.int .i64 s.tak,.int .u32 s.fro,.int .i64 4] W fun e w'=>e=.returned (.tuple #[.int .u32 (seeV s.asked s.tak s.fro 4 s.f),.bool true,.bool (seeU s.asked s.tak)])/\Below W.heap.size W w'):=CS0
  generalize seeV s.asked s.tak s.fro 4 s.f=y at*
  generalize seeU s.asked s.tak=U at*
  have CD:Hid (∀W,Tab W->Calls prog 114 #[.int .u32 y] W fun e w'=>e=.returned (.tuple #[ivI ((dcdM y).getD zin),.bool (dcdM y).isSome])/\Below W.heap.size W w'):=fun W hW=>zme hy W hW
  generalize s.asked.length=n at*
  generalize s.n=ml at*
  generalize s.fro=x at*
  generalize s.tak=q at*
  clear CS0 S hok hB ea em e1 hf HF hy
  cases hd:dcdM y with
  |none=>
   rw[hd]at CD
   simp only[Option.getD_none,Option.isSome_none]at CD
   clear hd
   go_enter func77,ntmps77
   go_upto_region 1 with fail
   refine Wi.zA (Φ:=fun W=>Code.wp _ _ _ _ W) ?_
   intro V hV hVb
   have k335:=zn hVb k335
   have k39:=zn hVb k39
   have k337:=zn hVb k337
   have HVb:Hid (Below w.heap.size w V):=hVb
   have HV:Hid (V.heap[w.heap.size]?=some (.cells #[.int .i64 0,.int .i64 0,.int .i64 0,.int .i64 0,.int .i32 0] 77 (0,0))):=hV
   clear hV hVb
   refine wp_region_held_drew (S:=fun w'=>w'.cell? ⟨b,335,none⟩=some (.slice a n c)/\w'.cell? ⟨b,39,none⟩=some (.slice p ml mc)/\w'.cell? ⟨b,337,none⟩=some (.int .u32 x)) (by kernel_rfl) (⟨k335,k39,k337⟩) (fun hH=>?_)
   refine tI 0 (.pointer (some ⟨b,0,none⟩)) rfl hH ?_;try go_simp
   refine tI 1 (.pointer (some ⟨b,0,none⟩)) rfl hH ?_;try go_simp
   refine tI 2 (.pointer (some ⟨b,335,none⟩)) rfl hH ?_;try go_simp
   refine tH 3 (.slice a n c) rfl (Or.inl ⟨by rfl,by intro wz hSw;have hc:=hSw.1;go_simp⟩) hH ?_;try go_simp
   refine tI 4 (.pointer (some ⟨b,0,none⟩)) rfl hH ?_;try go_simp
   refine tI 5 (.pointer (some ⟨b,0,none⟩)) rfl hH ?_;try go_simp
   refine tI 6 (.pointer (some ⟨b,3,none⟩)) rfl hH ?_;try go_simp
   refine tI 7 (.pointer (some ⟨b,39,none⟩)) rfl hH ?_;try go_simp
   refine tH 8 (.slice p ml mc) rfl (Or.inl ⟨by rfl,by intro wz hSw;have hc:=hSw.2.1;go_simp⟩) hH ?_;try go_simp
   refine tI 9 (.int .i64 q) rfl hH ?_;try go_simp
   refine tI 10 (.pointer (some ⟨b,0,none⟩)) rfl hH ?_;try go_simp
   refine tI 11 (.pointer (some ⟨b,0,none⟩)) rfl hH ?_;try go_simp
   refine tI 12 (.pointer (some ⟨b,337,none⟩)) rfl hH ?_;try go_simp
   refine tH 13 (.int .u32 x) rfl (Or.inl ⟨by rfl,by intro wz hSw;have hc:=hSw.2.2;go_simp⟩) hH ?_;try go_simp
   refine wpAnyH_ready (rs:=[14]) (by kernel_rfl) (by simp) ?_
   refine AllReadyH.cons rfl (fun K hK=>?_) AllReadyH.nil
   go_simp
   refine(CS.out _ (HVb.out.trans ((Below.refl _ _).drew))).mono ?_
   rintro e V1 ⟨rfl,hk⟩
   have HB1:Hid (Below V.heap.size V V1):=zi hk (Nat.le_refl _)
   go_wp2_with fail
   refine hK.out _ _ (⟨zn hk (hH.1),zn hk (hH.2.1),zn hk (hH.2.2)⟩) (fun hH=>?_)
   clear hK K
   try go_simp
   refine tI 15 (.tuple #[.int .u32 y,.bool true,.bool U]) rfl hH ?_;try go_simp
   refine tI 16 (.int .u32 y) rfl hH ?_;try go_simp
   refine tI 17 (.bool true) rfl hH ?_;try go_simp
   refine tI 18 (.bool U) rfl hH ?_;try go_simp
   refine tI 19 (.int .u32 y) rfl hH ?_;try go_simp
   refine tI 20 (.bool true) rfl hH ?_;try go_simp
   refine tI 21 (.bool U) rfl hH ?_;try go_simp
   refine wpAnyH_done (by kernel_rfl) ?_ _
   have HF1:Hid (Below w.heap.size w V1):=HVb.out.trans (HB1.out.mono HVb.out.size)
   have HR:Hid (V1.heap[w.heap.size]?=some (.cells (ivL zin) 77 (0,0))):=(HB1.out.block _ (zr HV.out)).trans HV.out
   clear hH HVb HV HB1 k335 k39 k337 CS hk
   go_wp2_with fail
   refine(CD.out _ (HT.out.below HF1.out HT.out.size)).mono ?_
   rintro e V2 ⟨rfl,hk2⟩
   have HR:Hid (V2.heap[w.heap.size]?=some (.cells (ivL zin) 77 (0,0))):=(hk2.block _ (zr HR.out)).trans HR.out
   have HF1:Hid (Below w.heap.size w V2):=HF1.out.trans (hk2.mono HF1.out.size)
   clear hk2 CD
   go_upto_region 6 with fail
   refine Wi.zA (Φ:=fun W=>Code.wp _ _ _ _ W) ?_
   intro V3 hV3 hb3
   have HR:Hid (V3.heap[w.heap.size]?=some (.cells (ivL zin) 77 (0,0))):=(hb3.block _ (zr HR.out)).trans HR.out
   have HF1:Hid (Below w.heap.size w V3):=HF1.out.trans (hb3.mono HF1.out.size)
   have HV3:Hid (V3.heap[V2.heap.size]?=some (.cells (ivL zin) 77 (0,0))):=hV3
   clear hV3 hb3
   generalize V2.heap.size=z at*
   go_wp2_with(refine wpList_store_row rfl 77 _ _ rfl _ _ rfl rfl 77 _ HR.out (jv zin).1 (jv zin).2.1 (jv zin).2.2 ?_)
   exact bodyPost_ret (v:=.tuple #[ivI zin,.int .i64 2]) (xD results77 _ _ _ 77 _ (0,0) _ _ rfl rfl (yp HR.out) underlying77 rfl (jv zin).1) rfl ⟨rfl,below_setRow HF1.out _⟩
  |some i=>
   rw[hd]at CD
   simp only[Option.getD_some,Option.isSome_some]at CD
   clear hd
   go_enter func77,ntmps77
   go_upto_region 1 with fail
   refine Wi.zA (Φ:=fun W=>Code.wp _ _ _ _ W) ?_
   intro V hV hVb
   have k335:=zn hVb k335
   have k39:=zn hVb k39
   have k337:=zn hVb k337
   have HVb:Hid (Below w.heap.size w V):=hVb
   have HV:Hid (V.heap[w.heap.size]?=some (.cells #[.int .i64 0,.int .i64 0,.int .i64 0,.int .i64 0,.int .i32 0] 77 (0,0))):=hV
   clear hV hVb
   refine wp_region_held_drew (S:=fun w'=>w'.cell? ⟨b,335,none⟩=some (.slice a n c)/\w'.cell? ⟨b,39,none⟩=some (.slice p ml mc)/\w'.cell? ⟨b,337,none⟩=some (.int .u32 x)) (by kernel_rfl) (⟨k335,k39,k337⟩) (fun hH=>?_)
   refine tI 0 (.pointer (some ⟨b,0,none⟩)) rfl hH ?_;try go_simp
   refine tI 1 (.pointer (some ⟨b,0,none⟩)) rfl hH ?_;try go_simp
   refine tI 2 (.pointer (some ⟨b,335,none⟩)) rfl hH ?_;try go_simp
   refine tH 3 (.slice a n c) rfl (Or.inl ⟨by rfl,by intro wz hSw;have hc:=hSw.1;go_simp⟩) hH ?_;try go_simp
   refine tI 4 (.pointer (some ⟨b,0,none⟩)) rfl hH ?_;try go_simp
   refine tI 5 (.pointer (some ⟨b,0,none⟩)) rfl hH ?_;try go_simp
   refine tI 6 (.pointer (some ⟨b,3,none⟩)) rfl hH ?_;try go_simp
   refine tI 7 (.pointer (some ⟨b,39,none⟩)) rfl hH ?_;try go_simp
   refine tH 8 (.slice p ml mc) rfl (Or.inl ⟨by rfl,by intro wz hSw;have hc:=hSw.2.1;go_simp⟩) hH ?_;try go_simp
   refine tI 9 (.int .i64 q) rfl hH ?_;try go_simp
   refine tI 10 (.pointer (some ⟨b,0,none⟩)) rfl hH ?_;try go_simp
   refine tI 11 (.pointer (some ⟨b,0,none⟩)) rfl hH ?_;try go_simp
   refine tI 12 (.pointer (some ⟨b,337,none⟩)) rfl hH ?_;try go_simp
   refine tH 13 (.int .u32 x) rfl (Or.inl ⟨by rfl,by intro wz hSw;have hc:=hSw.2.2;go_simp⟩) hH ?_;try go_simp
   refine wpAnyH_ready (rs:=[14]) (by kernel_rfl) (by simp) ?_
   refine AllReadyH.cons rfl (fun K hK=>?_) AllReadyH.nil
   go_simp
   refine(CS.out _ (HVb.out.trans ((Below.refl _ _).drew))).mono ?_
   rintro e V1 ⟨rfl,hk⟩
   have HB1:Hid (Below V.heap.size V V1):=zi hk (Nat.le_refl _)
   go_wp2_with fail
   refine hK.out _ _ (⟨zn hk (hH.1),zn hk (hH.2.1),zn hk (hH.2.2)⟩) (fun hH=>?_)
   clear hK K
   try go_simp
   refine tI 15 (.tuple #[.int .u32 y,.bool true,.bool U]) rfl hH ?_;try go_simp
   refine tI 16 (.int .u32 y) rfl hH ?_;try go_simp
   refine tI 17 (.bool true) rfl hH ?_;try go_simp
   refine tI 18 (.bool U) rfl hH ?_;try go_simp
   refine tI 19 (.int .u32 y) rfl hH ?_;try go_simp
   refine tI 20 (.bool true) rfl hH ?_;try go_simp
   refine tI 21 (.bool U) rfl hH ?_;try go_simp
   refine wpAnyH_done (by kernel_rfl) ?_ _
   have HF1:Hid (Below w.heap.size w V1):=HVb.out.trans (HB1.out.mono HVb.out.size)
   have HR:Hid (V1.heap[w.heap.size]?=some (.cells (ivL zin) 77 (0,0))):=(HB1.out.block _ (zr HV.out)).trans HV.out
   clear hH HVb HV HB1 k335 k39 k337 CS hk
   go_wp2_with fail
   refine(CD.out _ (HT.out.below HF1.out HT.out.size)).mono ?_
   rintro e V2 ⟨rfl,hk2⟩
   have HR:Hid (V2.heap[w.heap.size]?=some (.cells (ivL zin) 77 (0,0))):=(hk2.block _ (zr HR.out)).trans HR.out
   have HF1:Hid (Below w.heap.size w V2):=HF1.out.trans (hk2.mono HF1.out.size)
   clear hk2 CD
   go_upto_region 7 with fail
   refine Wi.zA (Φ:=fun W=>Code.wp _ _ _ _ W) ?_
   intro V3 hV3 hb3
   have HR:Hid (V3.heap[w.heap.size]?=some (.cells (ivL zin) 77 (0,0))):=(hb3.block _ (zr HR.out)).trans HR.out
   have HF1:Hid (Below w.heap.size w V3):=HF1.out.trans (hb3.mono HF1.out.size)
   have HV3:Hid (V3.heap[V2.heap.size]?=some (.cells (ivL i) 77 (0,0))):=hV3
   clear hV3 hb3
   generalize V2.heap.size=z at*
   go_wp2_with(first|refine wpList_load_row rfl 77 _ rfl _ rfl 77 _ (0,0) _ HV3.out underlying77 rfl (jv i).1 ?_|refine wpList_store_row rfl 77 _ _ rfl _ _ rfl rfl 77 _ HR.out (jv i).1 (jv i).2.1 (jv i).2.2 ?_)
   exact bodyPost_ret (v:=.tuple #[ivI i,.int .i64 0]) (xD results77 _ _ _ 77 _ (0,0) _ _ rfl rfl (yp HR.out) underlying77 rfl (jv i).1) rfl ⟨rfl,below_setRow HF1.out _⟩
def bt(x:Int)(j:Nat):Int:=x/p256 j%256
theorem bt_le{g:Nat->Int}{m:Nat}(hm:m<=4)(h:∀i,i<m->0<=g i/\g i<=255):∀j,j<m->bt (le g m) j=g j:=by
 intro j hj
 unfold bt
 rcases(by omega:m=1\/m=2\/m=3\/m=4)with rfl|rfl|rfl|rfl
 ·have:=h 0 (by omega)
  obtain rfl:j=0:=by omega
  simp[le,p256];omega
 ·have:=h 0 (by omega);have:=h 1 (by omega)
  rcases(by omega:j=0\/j=1)with rfl|rfl<;>simp[le,p256]<;>omega
 ·have:=h 0 (by omega);have:=h 1 (by omega);have:=h 2 (by omega)
  rcases(by omega:j=0\/j=1\/j=2)with rfl|rfl|rfl<;>simp[le,p256]<;>omega
 ·have:=h 0 (by omega);have:=h 1 (by omega);have:=h 2 (by omega);have:=h 3 (by omega)
  rcases(by omega:j=0\/j=1\/j=2\/j=3)with rfl|rfl|rfl|rfl<;>simp[le,p256]<;>omega
theorem zbw(op x:Int)(hx:U32 x)(ho:ldn op≠0)(w:World):Calls prog 74 #[.int .i64 op,.int .u32 x] w fun e w'=>e=.returned (.int .u32 (ldv op (bt x)))/\Below w.heap.size w w':=by
 obtain⟨x0,x1⟩:=hx
 have hl:=jm op
 have CL:∀W:World,W.heap[w.heap.size]?=some (.cells #[.int .u8 (x%256),.int .u8 (x/256%256),.int .u8 (x/65536%256),.int .u8 (x/16777216)] 5 (0,0))->Calls prog 94 #[.slice (some ⟨w.heap.size,0,none⟩) 4 4,.int .i64 op,.int .u32 0] W fun e w'=>e=.returned (.tuple #[.int .u32 (ldv op (bt x)),.bool true])/\w'=W:=fun W hW=>by
  have hB:Bys W (some ⟨w.heap.size,0,none⟩) 4 4 (bt x):=by
   refine⟨by omega,by omega,fun _=>⟨w.heap.size,0,rfl,fun i hi=>?_⟩,fun i hi=>by unfold bt;omega⟩
   rw[cell_of_row _ _ _ _ _ _ hW]
   rcases(by omega:i=0\/i=1\/i=2\/i=3)with rfl|rfl|rfl|rfl<;>simp[bt,p256]<;>omega
  have:=jM hB op 0 (by omega) ⟨by omega,by rcases hl with h|h|h|h<;>rw[h]<;>rfl,by omega⟩ W (Below.refl _ _)
  simpa using this
 go_enter func74,ntmps74
 go_wp2_with fail
 refine(CL _ (heap_alloc_new _ _)).mono ?_
 rintro e w' ⟨rfl,rfl⟩
 go_wp2_with fail
 go_ret
 exact⟨rfl,(Below.refl _ _).alloc (Nat.le_refl _) _⟩
theorem zp5(pc k:Int)(w:World):Calls prog 105 #[.int .u32 pc,.int .i64 k] w fun e w'=>e=.returned (cvC (qe pc k))/\Below w.heap.size w w':=xh pc k w
theorem zmf(i:In)(pc v:Int)(hp:U32 pc)(w:World)(ok:Bool):Calls prog 73 #[ivI i,.int .u32 pc,.int .u32 v,.bool ok] w fun e w'=>e=.returned (cvC (if ok then onC pc i.rd v else qe pc 3))/\Below w.heap.size w w':=by
 cases ok with
 |false=>exact jh i.op i.rd i.s1 i.s2 i.im pc v w
 |true=>
  rw[if_pos rfl]
  by_cases h:i.rd=0
  ·rw[znL pc v h]
   have:=qA i.op i.im pc v _ i.rd i.s1 i.s2 w (fun W=>zQ pc hp.1 hp.2 W) 0 0 (fun W=>by rw[h];exact zd5 pc _ v W)
   exact this
  ·rw[zlk pc v h]
   exact qA i.op i.im pc v _ i.rd i.s1 i.s2 w (fun W=>zQ pc hp.1 hp.2 W) i.rd v (fun W=>zbS pc _ v i.rd (by simpa using h) W)
theorem zh6(R:Nat->Int)(pc st ca a b c:Int):(((rowOf (hat R pc st ca) 35).setIfInBounds 32 (.int .u32 a)).setIfInBounds 33 (.int .i64 b)).setIfInBounds 34 (.int .i64 c)=rowOf (hat R a b c) 35:=by
 rw[jS,jS,jS]
 refine qt fun i hi=>?_
 unfold hat
 by_cases h4:i=34
 ·subst h4;rfl
 by_cases h3:i=33
 ·subst h3;rfl
 by_cases h2:i=32
 ·subst h2;rfl
 simp only[h4,h3,h2,if_false]
 rw[if_pos (by omega),if_pos (by omega)]
theorem zoS(R:Nat->Int)(pc st ca v:Int)(rd:Nat)(h:rd<32):(rowOf (hat R pc st ca) 35).setIfInBounds rd (.int .u32 v)=rowOf (hat (up R rd v) pc st ca) 35:=by
 rw[jS]
 refine qt fun i hi=>?_
 unfold hat up
 by_cases e:i=rd
 ·subst e;rw[if_pos rfl,if_pos h,if_pos rfl]
 ·simp only[e,if_false]
theorem je(f:Nat->Value)(n:Nat)(h:∀i,i<n->(f i).oneCell'=true):(rowOf f n).all (·.oneCell')=true:=by
 refine all_oneCell_toArray fun u hu=>?_
 obtain⟨i,hi,rfl⟩:=List.mem_map.1 hu
 exact h i (List.mem_range.1 hi)
theorem zbx(R:Nat->Int)(pc st ca:Int)(i:Nat):(hat R pc st ca i).oneCell'=true:=by
 unfold hat
 split
 ·rfl
 ·split
  ·rfl
  ·split<;>rfl
theorem zmg(R:Nat->Int)(pc st ca:Int)(c:Cm)(hr:c.rd<32)(w:World):Calls prog 62 #[.agg (rowOf (hat R pc st ca) 35),cvC c] w fun e w'=>e=.returned (.agg (rowOf (hat (updC R c) c.next c.st c.ca) 35))/\Below w.heap.size w w':=by
 have h32:∃z,(rowOf (hat R pc st ca) 35)[32]?=some (.int .u32 z):=⟨_,zp _ (by omega)⟩
 have h33:∃z,(rowOf (hat R pc st ca) 35)[33]?=some (.int .i64 z):=⟨_,zp _ (by omega)⟩
 have h34:∃z,(rowOf (hat R pc st ca) 35)[34]?=some (.int .i64 z):=⟨_,zp _ (by omega)⟩
 have ho:Ones (rowOf (hat R pc st ca) 35):=je _ _ fun i _=>zbx _ _ _ _ i
 unfold updC
 by_cases h:c.rd=0
 ·rw[if_pos h,<-zh6 R pc st ca]
  show Calls _ _ #[_,cv c.pc c.next c.st c.ca c.rd c.val c.pl c.many c.data c.out c.told] _ _
  rw[h]
  exact zgO _ c.pc c.next c.st c.ca c.val c.pl c.many c.data c.told c.out (zf _ _) ho h32 h33 h34 w
 ·rw[if_neg h,<-zoS R _ _ _ c.val c.rd hr,<-zh6 R pc st ca]
  refine zgP _ c.pc c.next c.st c.ca c.val c.pl c.many c.data c.told c.rd (R c.rd) c.out (zf _ _) ho h32 h33 h34 ?_ hr (by simpa using h) w
  rw[zp _ (by omega)]
  unfold hat
  rw[if_pos hr]
theorem zoT{w:World}{p:Option Addr}{n c:Nat}{f:Nat->Int}(B:Bys w p n c f)(i:In)(x d:Int)(hs:sts i=true)(hx:U32 x)(hd:U32 d)(hf:fits n x (stn i.op)=true)(W:World)(hW:Below w.heap.size w W):
  Calls prog 63 #[.slice p n c,.int .i64 i.op,.int .u32 x,.int .u32 d] W fun e w'=>(∃h cap,e=.returned (.tuple #[.slice (some ⟨h,0,none⟩) n cap,.bool true])/\Bys w' (some ⟨h,0,none⟩) n cap (sto f x.toNat d (stn i.op).toNat)/\W.heap.size<=h)/\Below W.heap.size W w':=by
 have hb:=B.below hW
 have h1:16<=i.op/\i.op<=18:=by simpa[sts]using hs
 have h2:=zew h1
 obtain⟨k0,k1,k2⟩:=jA hf
 obtain⟨a,rfl⟩:=Int.eq_ofNat_of_zero_le hx.1
 obtain⟨m,hm⟩:=Int.eq_ofNat_of_zero_le (show 0<=stn i.op by omega)
 rw[hm]at k1 k2 h2⊢
 have hn:=hb.hn
 obtain⟨g,o,rfl,hl⟩:=hb.hm (by omega)
 refine(zgE g o n c i.op a m d f hm (by omega) (by have:=hx.2;omega) (by omega) (by omega) (by omega) hb.hnc hd.1 hd.2 W hl).mono ?_
 rintro e w' ⟨⟨h,cap,rfl,hc,F⟩,hb'⟩
 refine⟨⟨h,cap,rfl,⟨hn,hc,fun _=>⟨h,0,rfl,fun i hi=>?_⟩,fun i hi=>?_⟩,F.base⟩,hb'⟩
 ·rw[Nat.zero_add];exact F.cell i hi
 ·unfold sto
  split
  ·omega
  ·exact hb.hf i hi
end Go.Proofs.YtpiohehijkpghabGreatDoor.Co
