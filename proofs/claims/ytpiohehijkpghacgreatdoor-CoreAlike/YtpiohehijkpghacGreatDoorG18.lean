/- What the program guesses. -/
import Derived.Laws.AppendOwn
import Derived.Test.YtpiohehijkpghacGreatDoorChecked
import Derived.ProofKit
import Derived.Below
import Derived.Deep.MidRow
import Derived.Deep.WholeRow
import Derived.Laws.Rows
import Derived.Laws.Tables
import Derived.Deep.QuietTactic
import Derived.BigQuiet
import Derived.Test.YtpiohehijkpghacGreatDoorG17
import Derived.Test.YtpiohehijkpghacGreatDoorG01
import Derived.Test.YtpiohehijkpghacGreatDoorG10
import Derived.Test.YtpiohehijkpghacGreatDoorG11
import Derived.Test.YtpiohehijkpghacGreatDoorG04
set_option maxRecDepth 20000
set_option maxHeartbeats 1000000
namespace Go.Proofs.YtpiohehijkpghacGreatDoor.Co
open Go.RowKit
open Hy
open Wi Od Re.Hy
open Gu.Hy (Tb tcs)
set_option linter.unusedVariables false
set_option linter.unusedSimpArgs false
theorem put_list {g:Nat} {e:TypeId} {fr:Nat×Nat}:∀(news:List Value) {w:World} {off:Nat} {cur:Array Value},w.heap[g]?=some (.cells cur e fr)→off+news.length≤cur.size→
  ∃cur':Array Value,(w.setCells g off news).heap[g]?=some (.cells cur' e fr)∧cur'.size=cur.size∧∀j:Nat,cur'[j]?=if off≤j∧j<off+news.length then news[j-off]? else cur[j]?
 |[],w,off,cur,h,hf=>⟨cur,h,rfl,fun j=>by rw[if_neg (by simp only[List.length_nil];omega)]⟩
 |u::news,w,off,cur,h,hf=>by
  simp only[List.length_cons]at hf
  obtain⟨cur',h1,h2,h3⟩:=put_list news (w:=w.setCell ⟨g,off,none⟩ u) (off:=off+1) (heap_put h) (by rw[Array.size_setIfInBounds];omega)
  refine⟨cur',h1,by rw[h2,Array.size_setIfInBounds],fun j=>?_⟩
  rw[h3]
  simp only[List.length_cons]
  by_cases e0:j=off
  ·subst e0
   rw[if_neg (by omega),if_pos (by omega),Nat.sub_self,Array.getElem?_setIfInBounds,if_pos rfl,if_pos (by omega)]
   rfl
  ·by_cases e1:off+1≤j∧j<off+1+news.length
   ·rw[if_pos e1,if_pos (by omega),show j-off=(j-(off+1))+1 by omega]
    rfl
   ·rw[if_neg e1,if_neg (by omega),Array.getElem?_setIfInBounds,if_neg (fun h=>e0 h.symm)]
def ov (xs:List Value) (off:Nat) (news:List Value):List Value:=xs.take off++news++xs.drop (off+news.length)
theorem ov_len {xs news:List Value} {off:Nat} (h:off+news.length≤xs.length):(ov xs off news).length=xs.length:=by
 unfold ov
 simp only[List.length_append,List.length_take,List.length_drop]
 omega
theorem ov_at {xs news:List Value} {off:Nat} (h:off+news.length≤xs.length) (j:Nat):(ov xs off news)[j]?=if off≤j∧j<off+news.length then news[j-off]? else xs[j]?:=by
 unfold ov
 by_cases h1:j<off
 ·rw[if_neg (by omega),List.getElem?_append_left (by simp only[List.length_append,List.length_take];omega),List.getElem?_append_left (by simp only[List.length_take];omega),List.getElem?_take_of_lt h1]
 ·by_cases h2:j<off+news.length
  ·rw[if_pos (by omega),List.getElem?_append_left (by simp only[List.length_append,List.length_take];omega),List.getElem?_append_right (by simp only[List.length_take];omega),List.length_take,Nat.min_eq_left (by omega)]
  ·rw[if_neg (by omega),List.getElem?_append_right (by simp only[List.length_append,List.length_take];omega),List.getElem?_drop]
   congr 1
   simp only[List.length_append,List.length_take]
   omega
theorem ov_one {xs news:List Value} {off:Nat} (h:∀u∈xs,u.oneCell'=true) (h':∀u∈news,u.oneCell'=true):∀u∈ov xs off news,u.oneCell'=true:=by
 intro u hu
 unfold ov at hu
 rcases List.mem_append.1 hu with hu|hu
 ·rcases List.mem_append.1 hu with hu|hu
  ·exact h u (List.mem_of_mem_take hu)
  ·exact h' u hu
 ·exact h u (List.mem_of_mem_drop hu)
theorem flat_ov {α:Type} {g:α→List Value} {size:Nat} (hg:∀x,(g x).length=size):∀{l:List α} {k j:Nat} {x y:α} {news:List Value},l[k]?=some x→j+news.length≤size→g y=ov (g x) j news→ov (flat g l) (k*size+j) news=flat g (l.set k y)
 |[],k,j,x,y,news,h,_,_=>by simp at h
 |z::l,0,j,x,y,news,h,hj,e=>by
  simp at h
  subst h
  rw[Nat.zero_mul,Nat.zero_add]
  show ov (g z++flat g l) j news=g y++flat g l
  rw[e]
  unfold ov
  have hz:=hg z
  rw[List.take_append_of_le_length (by omega),List.drop_append_of_le_length (by omega)]
  simp only[List.append_assoc]
 |z::l,k+1,j,x,y,news,h,hj,e=>by
  have ih:=flat_ov hg (l:=l) (k:=k) (by simpa using h) hj e
  show ov (g z++flat g l) ((k+1)*size+j) news=g z++flat g (l.set k y)
  have e1:(k+1)*size+j=(g z).length+(k*size+j):=by rw[hg,Nat.add_mul];omega
  rw[e1,←ih]
  unfold ov
  rw[List.take_length_add_append,List.append_assoc,List.append_assoc,show(g z).length+(k*size+j)+news.length=(g z).length+(k*size+j+news.length) by omega,List.drop_append]
  simp only[List.append_assoc]
  rw[List.drop_eq_nil_of_le (by omega),List.nil_append,Nat.add_sub_cancel_left]
theorem Us.at {w:World} {e size:Nat} {v:Value} {n:Nat} {xs:List Value} (h:Us w e size v n xs) (h0:0<n):∃g o cap,v=.slice (some ⟨g,o,none⟩) n cap∧n≤cap∧cap≤maxLen∧g<w.heap.size∧(∀j u,xs[j]?=some u→w.cell? ⟨g,o+j,none⟩=some u)∧∀j,j<n*size→w.frozen? ⟨g,o+j,none⟩=false:=by
 rcases h.is with⟨_,rfl⟩|⟨g,o,cap,cur,h1,h2,h3,h4,h5,h6⟩
 ·omega
 ·refine⟨g,o,cap,h1,h3,h4,(Array.getElem?_eq_some_iff.1 h2).1,fun j u hj=>?_,fun j _=>frozen_of_row _ _ _ _ _ h2⟩
  rw[cell_of_row _ _ _ _ _ _ h2,←Array.getElem?_toList]
  rw[←h6]at hj
  have hlt:j<n*size:=by have:=(List.getElem?_eq_some_iff.1 hj).1;rw[List.length_take]at this;omega
  rw[List.getElem?_take_of_lt hlt,List.getElem?_drop]at hj
  exact hj
theorem Us.puts {w:World} {e size:Nat} {n cap g o:Nat} {xs:List Value} (h:Us w e size (.slice (some ⟨g,o,none⟩) n cap) n xs) (off:Nat) (news:List Value) (hf:off+news.length≤n*size) (h1:∀u∈news,u.oneCell'=true):Us (w.setCells g (o+off) news) e size (.slice (some ⟨g,o,none⟩) n cap) n (ov xs off news):=by
 have hxl:=h.len
 rcases h.is with⟨e0,_⟩|⟨g',o',cap',cur,e1,h2,h3,h4,h5,h6⟩
 ·cases e0
 ·cases e1
  have hns:n*size≤cap*size:=Nat.mul_le_mul_right _ h3
  obtain⟨cur',c1,c2,c3⟩:=put_list news (off:=o+off) h2 (by omega)
  refine⟨by rw[ov_len (by omega)];exact hxl,ov_one h.one h1,.inr ⟨g,o,cap,cur',rfl,c1,h3,h4,by omega,?_⟩⟩
  apply List.ext_getElem?
  intro j
  rw[ov_at (by omega)]
  by_cases hj:j<n*size
  ·rw[List.getElem?_take_of_lt hj,List.getElem?_drop,Array.getElem?_toList,c3]
   by_cases hin:off≤j∧j<off+news.length
   ·rw[if_pos (by omega),if_pos hin]
    congr 1
    omega
   ·rw[if_neg (by omega),if_neg hin,←h6,List.getElem?_take_of_lt hj,List.getElem?_drop,Array.getElem?_toList]
  ·rw[List.getElem?_eq_none (by rw[List.length_take];omega),if_neg (by omega),List.getElem?_eq_none (by omega)]
theorem Us.there {w:World} {e size:Nat} {n cap g o:Nat} {xs:List Value} (h:Us w e size (.slice (some ⟨g,o,none⟩) n cap) n xs) (off m:Nat) (hf:off+m≤n*size):w.there g (o+off) m:=by
 rcases h.is with⟨e0,_⟩|⟨g',o',cap',cur,e1,h2,h3,h4,h5,h6⟩
 ·cases e0
 ·cases e1
  have hns:n*size≤cap*size:=Nat.mul_le_mul_right _ h3
  intro j hj
  refine⟨?_,frozen_of_row _ _ _ _ _ h2⟩
  rw[cell_of_row _ _ _ _ _ _ h2]
  rw[Array.getElem?_eq_getElem (by omega)]
  rfl
theorem Us.drop {w:World} {e size:Nat} {n cap g o:Nat} {xs:List Value} (h:Us w e size (.slice (some ⟨g,o,none⟩) n cap) n xs) (m:Nat) (hm:m≤n) (hlt:m<cap):Us w e size (.slice (some ⟨g,o+m*size,none⟩) (n-m) (cap-m)) (n-m) (xs.drop (m*size)):=by
 have hxl:=h.len
 rcases h.is with⟨e0,_⟩|⟨g',o',cap',cur,e1,h2,h3,h4,h5,h6⟩
 ·cases e0
 ·cases e1
  have e3:(n-m)*size=n*size-m*size:=Nat.sub_mul ..
  have e4:(cap-m)*size=cap*size-m*size:=Nat.sub_mul ..
  have hms:m*size≤cap*size:=Nat.mul_le_mul_right _ (Nat.le_of_lt hlt)
  refine⟨by rw[List.length_drop];omega,fun u hu=>h.one u (List.mem_of_mem_drop hu),.inr ⟨g,o+m*size,cap-m,cur,rfl,h2,by omega,by omega,by omega,?_⟩⟩
  rw[←h6,List.drop_take,List.drop_drop,e3]
theorem Us.empty {w:World} {e size:Nat} {n cap g o:Nat} {xs:List Value} (h:Us w e size (.slice (some ⟨g,o,none⟩) n cap) n xs):Us w e size (.slice (some ⟨g,o,none⟩) 0 0) 0 []:=by
 rcases h.is with⟨e0,_⟩|⟨g',o',cap',cur,e1,h2,h3,h4,h5,h6⟩
 ·cases e0
 ·cases e1
  exact⟨by simp,fun u hu=>(by cases hu),.inr ⟨g,o,0,cur,rfl,h2,by omega,by omega,by omega,by simp⟩⟩
theorem heap_puts (w:World) (b o:Nat) (vs:List Value):w.grownBy (w.setCells b o vs) (some b):=
 ⟨(os_puts w b o vs).1,(os_puts w b o vs).2.1,(os_puts w b o vs).2.2,by rw[size_puts];exact Nat.le_refl _,fun k _ hk=>heap_puts_other w b o vs (fun e=>hk (by rw[e]))⟩
theorem us_append {P:Program} (w:World) (t ty e:TypeId) (i:TypeInfo) (z:Value) (size bytes:Nat) (ht:P.underlying t=some (.slice e)) (hi:P.info? e=some i) (hz:i.zero=some z)
  (hsize:i.size=size) (hby:i.bytes=bytes) (hzs:z.cells.size=size) (hsz:0<size)
  (v:Value) (n:Nat) (xs:List Value) (hU:Us w e size v n xs) (bx:Nat) (news:List Value) (hl:news.length=size) (hnews:∀j u,news[j]?=some u→w.cell? ⟨bx,j,none⟩=some u) (h1:∀u∈news,u.oneCell'=true)
  (h63:n+1≤1000000000000) (hbytes:(n+1)*bytes≤140737488355328):
  ∃v' w',(Builtin.append_ #[t,t] ty #[v,.slice (some ⟨bx,0,none⟩) 1 1]).run P w=.ok v' w'∧Us w' e size v' (n+1) (xs++news)∧w.grownBy w' v.ownBlock∧(∀g,v'.ownBlock=some g→v.ownBlock=some g∨w.heap.size≤g):=by
 subst hsize
 subst hby
 have hml:n+1≤maxLen:=by simp only[maxLen];omega
 have hlen:(xs++news).length=(n+1)*i.size:=by rw[List.length_append,hU.len,hl,Nat.add_mul];omega
 have hone:∀u∈xs++news,u.oneCell'=true:=fun u hu=>by
  rcases List.mem_append.1 hu with h|h
  ·exact hU.one u h
  ·exact h1 u h
 have hsrc:Src P i.size t (.slice (some ⟨bx,0,none⟩) 1 1) 1 news w:=Src.ofSlice w ht ⟨bx,0,none⟩ 1 1 news (by omega) (fun j u hj=>by rw[Addr.add_lit];simpa using hnews j u hj) h1
 have grown:∀(base:Option Addr) (old:Nat),old<n+1→(Builtin.firstCells i.size n (.slice base n old)).run P w.drew=.ok xs.toArray w.drew→Us w e i.size (.slice base n old) n xs→
   ∃v' w',(Builtin.append_ #[t,t] ty #[.slice base n old,.slice (some ⟨bx,0,none⟩) 1 1]).run P w=.ok v' w'∧Us w' e i.size v' (n+1) (xs++news)∧w.grownBy w' (Value.ownBlock (.slice base n old))∧(∀g,v'.ownBlock=some g→Value.ownBlock (.slice base n old)=some g∨w.heap.size≤g):=by
  intro base old ho hf _
  have hr:=run_append_grow_src w t t ty e i z ht hi hz base n old xs hf (.slice (some ⟨bx,0,none⟩) 1 1) 1 news hsrc (by omega) (by omega) (growslice_fits (by omega) hbytes)
  have hge:=grownCap_ge w (n+1) old e
  have hcm:grownCap w (n+1) old e≤maxLen:=grownCap_le_maxLen w (n+1) old e hml
  refine⟨_,_,hr,⟨hlen,hone,.inr ⟨w.heap.size,0,_,_,rfl,heap_alloc_new w.drew _,hge,hcm,?_,?_⟩⟩,⟨rfl,rfl,rfl,by simp,fun k hk _=>heap_alloc_old w.drew _ hk⟩,fun g hg=>.inr (Nat.le_of_eq (Option.some.inj hg))⟩
  ·have hx:=hU.len
   simp only[Array.size_append,List.size_toArray,List.length_append,size_zeroCells,hzs,hx,hl]
   have:grownCap w (n+1) old e*i.size=(n+1)*i.size+(grownCap w (n+1) old e-(n+1))*i.size:=by rw[←Nat.add_mul];congr 1;omega
   rw[this,Nat.add_mul]
   omega
  ·simp only[Array.toList_append,List.drop_zero]
   rw[←hlen]
   exact List.take_left
 rcases hU.is with⟨rfl,rfl⟩|⟨g,o,cap,cur,rfl,h2,h3,h4,h5,h6⟩
 ·obtain rfl:xs=[]:=List.eq_nil_of_length_eq_zero (by rw[hU.len,Nat.zero_mul])
  exact grown none 0 (by omega) (run_firstCells_none w.drew i.size 0 0 0) hU
 ·by_cases hroom:n+1≤cap
  ·have e5:(n+1)*i.size≤cap*i.size:=Nat.mul_le_mul_right _ hroom
   have e6:(n+1)*i.size=n*i.size+i.size:=by rw[Nat.add_mul,Nat.one_mul]
   have hin:∀j,j<news.length→o+n*i.size+j<cur.size:=fun j hj=>by omega
   have hr:=run_append_room_src w t t ty e i ht hi g o n cap (.slice (some ⟨bx,0,none⟩) 1 1) 1 news hsrc hroom (fun j hj=>by rw[cell_of_row _ _ _ _ _ _ h2,Array.getElem?_eq_getElem (hin j hj)];rfl) (fun j _=>frozen_of_row _ _ _ _ _ h2)
   obtain⟨cur',c1,c2,c3⟩:=put_list news (off:=o+n*i.size) h2 (by omega)
   refine⟨_,_,hr,⟨hlen,hone,.inr ⟨g,o,cap,cur',rfl,c1,hroom,h4,by omega,?_⟩⟩,heap_puts w g _ news,fun g' hg'=>.inl hg'⟩
   have hxl:=hU.len
   apply List.ext_getElem?
   intro j
   by_cases hj:j<(n+1)*i.size
   ·rw[List.getElem?_take_of_lt hj,List.getElem?_drop,Array.getElem?_toList,c3]
    by_cases hin:j<n*i.size
    ·rw[if_neg (by omega),List.getElem?_append_left (by omega),←h6,List.getElem?_take_of_lt hin,List.getElem?_drop,Array.getElem?_toList]
    ·rw[if_pos (by omega),List.getElem?_append_right (by omega)]
     congr 1
     omega
   ·rw[List.getElem?_eq_none (by rw[List.length_take];omega),List.getElem?_eq_none (by omega)]
  ·refine grown (some ⟨g,o,none⟩) cap (by omega) ?_ hU
   refine run_firstCells_some w.drew i.size n ⟨g,o,none⟩ n cap xs hU.len (fun j u hj=>?_)
   rw[Addr.add_lit]
   show w.drew.cell? ⟨g,o+j,none⟩=_
   have:w.drew.cell? ⟨g,o+j,none⟩=w.cell? ⟨g,o+j,none⟩:=rfl
   rw[this,cell_of_row _ _ _ _ _ _ h2,←Array.getElem?_toList]
   rw[←h6]at hj
   have hlt:j<n*i.size:=by have:=(List.getElem?_eq_some_iff.1 hj).1;rw[List.length_take]at this;omega
   rw[List.getElem?_take_of_lt hlt,List.getElem?_drop]at hj
   exact hj
theorem wp_append_us {P:Program} {w:World} {o:Oper} {a:Act} {K:Act→World→Prop} {Q:Exit→Act→World→Prop} (s x:Operand) (t:TypeId)
  (ho:o.op=.call {callee:=.builtin .append,args:=#[s,x],argTypes:=#[t,t]})
  (e:TypeId) (i:TypeInfo) (z:Value) (size bytes:Nat) (ht:P.underlying t=some (.slice e)) (hi:P.info? e=some i) (hz:i.zero=some z)
  (hsize:i.size=size) (hby:i.bytes=bytes) (hzs:z.cells.size=size) (hsz:0<size)
  (v:Value) (n:Nat) (xs:List Value) (hs:a.eval s=v) (hU:Us w e size v n xs) (bx:Nat) (news:List Value) (hx:a.eval x=.slice (some ⟨bx,0,none⟩) 1 1) (hl:news.length=size) (hnews:∀j u,news[j]?=some u→w.cell? ⟨bx,j,none⟩=some u) (h1:∀u∈news,u.oneCell'=true)
  (h63:n+1≤1000000000000) (hbytes:(n+1)*bytes≤140737488355328)
  (h:∀v' w',Us w' e size v' (n+1) (xs++news)→w.grownBy w' v.ownBlock→(∀g,v'.ownBlock=some g→v.ownBlock=some g∨w.heap.size≤g)→K (a.put o.dst v') w'):o.wp P a w K Q:=by
 obtain⟨v',w',hr,h2,h3,h4⟩:=us_append (P:=P) w t o.type e i z size bytes ht hi hz hsize hby hzs hsz v n xs hU bx news hl hnews h1 h63 hbytes
 unfold Oper.wp execOp
 simp only[ho,resolve,invoke,builtin,Sem.run_bind,Sem.run_pure,Result.andThen_ok,List.map_toArray,List.map_cons,List.map_nil,hs,hx,hr]
 exact h v' w' h2 h3 h4
end Go.Proofs.YtpiohehijkpghacGreatDoor.Co
namespace Go.Proofs.YtpiohehijkpghacGreatDoor.Hy
open Go.RowKit
theorem pc_none (x:Int) (x0:0≤x) (x1:x<4294967296):pc x 0 0 0=0:=by
 have e:pc x 0 0 0=bits .and .u32 (x/1) 0*1%4294967296:=rfl
 rw[e,Int.ediv_one,and_zero32 x x0 x1];rfl
theorem pc_12_20_12 (x:Int) (x0:0≤x) (x1:x<4294967296):pc x 12 20 12=x/4096%1048576*4096:=by
 have e:pc x 12 20 12=bits .and .u32 (x/4096) 1048575*4096%4294967296:=rfl
 rw[e,andM20 (x/4096) (by omega) (by omega)];omega
theorem pc_31_1_20 (x:Int) (x0:0≤x) (x1:x<4294967296):pc x 31 1 20=x/2147483648%2*1048576:=by
 have e:pc x 31 1 20=bits .and .u32 (x/2147483648) 1*1048576%4294967296:=rfl
 rw[e,and1 (x/2147483648) (by omega) (by omega)];omega
theorem pc_20_1_31 (x:Int) (x0:0≤x) (x1:x<4294967296):pc x 20 1 31=x/1048576%2*2147483648:=by
 have e:pc x 20 1 31=bits .and .u32 (x/1048576) 1*2147483648%4294967296:=rfl
 rw[e,and1 (x/1048576) (by omega) (by omega)];omega
theorem pc_12_8_12 (x:Int) (x0:0≤x) (x1:x<4294967296):pc x 12 8 12=x/4096%256*4096:=by
 have e:pc x 12 8 12=bits .and .u32 (x/4096) 255*4096%4294967296:=rfl
 rw[e,and255 (x/4096) (by omega) (by omega)];omega
theorem pc_20_1_11 (x:Int) (x0:0≤x) (x1:x<4294967296):pc x 20 1 11=x/1048576%2*2048:=by
 have e:pc x 20 1 11=bits .and .u32 (x/1048576) 1*2048%4294967296:=rfl
 rw[e,and1 (x/1048576) (by omega) (by omega)];omega
theorem pc_21_10_1 (x:Int) (x0:0≤x) (x1:x<4294967296):pc x 21 10 1=x/2097152%1024*2:=by
 have e:pc x 21 10 1=bits .and .u32 (x/2097152) 1023*2%4294967296:=rfl
 rw[e,and1023 (x/2097152) (by omega) (by omega)];omega
theorem pc_20_12_0 (x:Int) (x0:0≤x) (x1:x<4294967296):pc x 20 12 0=x/1048576%4096*1:=by
 have e:pc x 20 12 0=bits .and .u32 (x/1048576) 4095*1%4294967296:=rfl
 rw[e,and4095 (x/1048576) (by omega) (by omega)];omega
theorem pc_20_5_0 (x:Int) (x0:0≤x) (x1:x<4294967296):pc x 20 5 0=x/1048576%32*1:=by
 have e:pc x 20 5 0=bits .and .u32 (x/1048576) 31*1%4294967296:=rfl
 rw[e,and31 (x/1048576) (by omega) (by omega)];omega
theorem pc_31_1_12 (x:Int) (x0:0≤x) (x1:x<4294967296):pc x 31 1 12=x/2147483648%2*4096:=by
 have e:pc x 31 1 12=bits .and .u32 (x/2147483648) 1*4096%4294967296:=rfl
 rw[e,and1 (x/2147483648) (by omega) (by omega)];omega
theorem pc_7_1_11 (x:Int) (x0:0≤x) (x1:x<4294967296):pc x 7 1 11=x/128%2*2048:=by
 have e:pc x 7 1 11=bits .and .u32 (x/128) 1*2048%4294967296:=rfl
 rw[e,and1 (x/128) (by omega) (by omega)];omega
theorem pc_25_6_5 (x:Int) (x0:0≤x) (x1:x<4294967296):pc x 25 6 5=x/33554432%64*32:=by
 have e:pc x 25 6 5=bits .and .u32 (x/33554432) 63*32%4294967296:=rfl
 rw[e,and63 (x/33554432) (by omega) (by omega)];omega
theorem pc_8_4_1 (x:Int) (x0:0≤x) (x1:x<4294967296):pc x 8 4 1=x/256%16*2:=by
 have e:pc x 8 4 1=bits .and .u32 (x/256) 15*2%4294967296:=rfl
 rw[e,and15 (x/256) (by omega) (by omega)];omega
theorem pc_25_7_5 (x:Int) (x0:0≤x) (x1:x<4294967296):pc x 25 7 5=x/33554432%128*32:=by
 have e:pc x 25 7 5=bits .and .u32 (x/33554432) 127*32%4294967296:=rfl
 rw[e,and127 (x/33554432) (by omega) (by omega)];omega
theorem pc_7_5_0 (x:Int) (x0:0≤x) (x1:x<4294967296):pc x 7 5 0=x/128%32*1:=by
 have e:pc x 7 5 0=bits .and .u32 (x/128) 31*1%4294967296:=rfl
 rw[e,and31 (x/128) (by omega) (by omega)];omega
theorem ib_U (x:Int) (x0:0≤x) (x1:x<4294967296):ib (fm 1) x 4=x/4096%1048576*4096:=by
 have e:ib (fm 1) x 4=bits .or .u32 (bits .or .u32 (bits .or .u32 (bits .or .u32 0 (pc x 12 20 12)) (pc x 0 0 0)) (pc x 0 0 0)) (pc x 0 0 0):=rfl
 rw[e,pc_12_20_12 x x0 x1,pc_none x x0 x1]
 simp only[or_zero_bits]
 rw[or_slot 12 32 (by omega) 4096 4294967296 _ (x/4096%1048576*4096) rfl rfl (by omega) (by omega) (or_mod (0) (0) (by omega) (by omega) (by omega) (by omega)) (by omega) (by omega) (by omega) (by omega)]
 omega
theorem ib_J (x:Int) (x0:0≤x) (x1:x<4294967296):ib (fm 2) x 4=x/2147483648%2*1048576+x/4096%256*4096+x/1048576%2*2048+x/2097152%1024*2:=by
 have e:ib (fm 2) x 4=bits .or .u32 (bits .or .u32 (bits .or .u32 (bits .or .u32 0 (pc x 31 1 20)) (pc x 12 8 12)) (pc x 20 1 11)) (pc x 21 10 1):=rfl
 rw[e,pc_31_1_20 x x0 x1,pc_12_8_12 x x0 x1,pc_20_1_11 x x0 x1,pc_21_10_1 x x0 x1]
 rw[or_slot 20 21 (by omega) 1048576 2097152 _ (x/2147483648%2*1048576) rfl rfl (by omega) (by omega) (or_mod (0) (0) (by omega) (by omega) (by omega) (by omega)) (by omega) (by omega) (by omega) (by omega)]
 rw[or_slot 12 20 (by omega) 4096 1048576 _ (x/4096%256*4096) rfl rfl (by omega) (by omega) (or_mod ((x/2147483648%2)*1) (0) (by omega) (by omega) (by omega) (by omega)) (by omega) (by omega) (by omega) (by omega)]
 rw[or_slot 11 12 (by omega) 2048 4096 _ (x/1048576%2*2048) rfl rfl (by omega) (by omega) (or_mod ((x/2147483648%2)*256+(x/4096%256)*1) (0) (by omega) (by omega) (by omega) (by omega)) (by omega) (by omega) (by omega) (by omega)]
 rw[or_slot 1 11 (by omega) 2 2048 _ (x/2097152%1024*2) rfl rfl (by omega) (by omega) (or_mod ((x/2147483648%2)*512+(x/4096%256)*2+(x/1048576%2)*1) (0) (by omega) (by omega) (by omega) (by omega)) (by omega) (by omega) (by omega) (by omega)]
 omega
theorem ib_I (x:Int) (x0:0≤x) (x1:x<4294967296):ib (fm 3) x 4=x/1048576%4096*1:=by
 have e:ib (fm 3) x 4=bits .or .u32 (bits .or .u32 (bits .or .u32 (bits .or .u32 0 (pc x 20 12 0)) (pc x 0 0 0)) (pc x 0 0 0)) (pc x 0 0 0):=rfl
 rw[e,pc_20_12_0 x x0 x1,pc_none x x0 x1]
 simp only[or_zero_bits]
 rw[or_slot 0 12 (by omega) 1 4096 _ (x/1048576%4096*1) rfl rfl (by omega) (by omega) (or_mod (0) (0) (by omega) (by omega) (by omega) (by omega)) (by omega) (by omega) (by omega) (by omega)]
 omega
theorem ib_H (x:Int) (x0:0≤x) (x1:x<4294967296):ib (fm 4) x 4=x/1048576%32*1:=by
 have e:ib (fm 4) x 4=bits .or .u32 (bits .or .u32 (bits .or .u32 (bits .or .u32 0 (pc x 20 5 0)) (pc x 0 0 0)) (pc x 0 0 0)) (pc x 0 0 0):=rfl
 rw[e,pc_20_5_0 x x0 x1,pc_none x x0 x1]
 simp only[or_zero_bits]
 rw[or_slot 0 5 (by omega) 1 32 _ (x/1048576%32*1) rfl rfl (by omega) (by omega) (or_mod (0) (0) (by omega) (by omega) (by omega) (by omega)) (by omega) (by omega) (by omega) (by omega)]
 omega
theorem ib_B (x:Int) (x0:0≤x) (x1:x<4294967296):ib (fm 5) x 4=x/2147483648%2*4096+x/128%2*2048+x/33554432%64*32+x/256%16*2:=by
 have e:ib (fm 5) x 4=bits .or .u32 (bits .or .u32 (bits .or .u32 (bits .or .u32 0 (pc x 31 1 12)) (pc x 7 1 11)) (pc x 25 6 5)) (pc x 8 4 1):=rfl
 rw[e,pc_31_1_12 x x0 x1,pc_7_1_11 x x0 x1,pc_25_6_5 x x0 x1,pc_8_4_1 x x0 x1]
 rw[or_slot 12 13 (by omega) 4096 8192 _ (x/2147483648%2*4096) rfl rfl (by omega) (by omega) (or_mod (0) (0) (by omega) (by omega) (by omega) (by omega)) (by omega) (by omega) (by omega) (by omega)]
 rw[or_slot 11 12 (by omega) 2048 4096 _ (x/128%2*2048) rfl rfl (by omega) (by omega) (or_mod ((x/2147483648%2)*1) (0) (by omega) (by omega) (by omega) (by omega)) (by omega) (by omega) (by omega) (by omega)]
 rw[or_slot 5 11 (by omega) 32 2048 _ (x/33554432%64*32) rfl rfl (by omega) (by omega) (or_mod ((x/2147483648%2)*2+(x/128%2)*1) (0) (by omega) (by omega) (by omega) (by omega)) (by omega) (by omega) (by omega) (by omega)]
 rw[or_slot 1 5 (by omega) 2 32 _ (x/256%16*2) rfl rfl (by omega) (by omega) (or_mod ((x/2147483648%2)*128+(x/128%2)*64+(x/33554432%64)*1) (0) (by omega) (by omega) (by omega) (by omega)) (by omega) (by omega) (by omega) (by omega)]
 omega
theorem ib_S (x:Int) (x0:0≤x) (x1:x<4294967296):ib (fm 6) x 4=x/33554432%128*32+x/128%32*1:=by
 have e:ib (fm 6) x 4=bits .or .u32 (bits .or .u32 (bits .or .u32 (bits .or .u32 0 (pc x 25 7 5)) (pc x 7 5 0)) (pc x 0 0 0)) (pc x 0 0 0):=rfl
 rw[e,pc_25_7_5 x x0 x1,pc_7_5_0 x x0 x1,pc_none x x0 x1]
 simp only[or_zero_bits]
 rw[or_slot 5 12 (by omega) 32 4096 _ (x/33554432%128*32) rfl rfl (by omega) (by omega) (or_mod (0) (0) (by omega) (by omega) (by omega) (by omega)) (by omega) (by omega) (by omega) (by omega)]
 rw[or_slot 0 5 (by omega) 1 32 _ (x/128%32*1) rfl rfl (by omega) (by omega) (or_mod ((x/33554432%128)*1) (0) (by omega) (by omega) (by omega) (by omega)) (by omega) (by omega) (by omega) (by omega)]
 omega
theorem ib_R (x:Int) (x0:0≤x) (x1:x<4294967296):ib (fm 7) x 4=0:=by
 have e:ib (fm 7) x 4=bits .or .u32 (bits .or .u32 (bits .or .u32 (bits .or .u32 0 (pc x 0 0 0)) (pc x 0 0 0)) (pc x 0 0 0)) (pc x 0 0 0):=rfl
 rw[e,pc_none x x0 x1]
 simp only[or_zero_bits]
 exact or_zero32 0 (by omega) (by omega)
theorem ib_E (x:Int) (x0:0≤x) (x1:x<4294967296):ib (fm 8) x 4=0:=by
 have e:ib (fm 8) x 4=bits .or .u32 (bits .or .u32 (bits .or .u32 (bits .or .u32 0 (pc x 0 0 0)) (pc x 0 0 0)) (pc x 0 0 0)) (pc x 0 0 0):=rfl
 rw[e,pc_none x x0 x1]
 simp only[or_zero_bits]
 exact or_zero32 0 (by omega) (by omega)
end Go.Proofs.YtpiohehijkpghacGreatDoor.Hy
namespace Go.Proofs.YtpiohehijkpghacGreatDoor.Hy
open Go.RowKit
set_option linter.unusedVariables false
def sx (v half full:Int):Int:=if v<half then v else v-full
theorem rim_U (x:Int) (x0:0≤x) (x1:x<4294967296):rim (fm 1) x=sx (x/4096*4096) 2147483648 4294967296:=by
 have e:rim (fm 1) x=wrap32 (ib (fm 1) x 4*1%4294967296)/1:=rfl
 rw[e,ib_U x x0 x1];unfold sx wrap32;split<;>omega
theorem rim_J (x:Int) (x0:0≤x) (x1:x<4294967296):rim (fm 2) x=sx (x/2147483648%2*1048576+x/4096%256*4096+x/1048576%2*2048+x/2097152%1024*2) 1048576 2097152:=by
 have e:rim (fm 2) x=wrap32 (ib (fm 2) x 4*2048%4294967296)/2048:=rfl
 rw[e,ib_J x x0 x1]
 have h:0≤x/2147483648%2*1048576+x/4096%256*4096+x/1048576%2*2048+x/2097152%1024*2∧x/2147483648%2*1048576+x/4096%256*4096+x/1048576%2*2048+x/2097152%1024*2<2097152:=by omega
 revert h
 generalize x/2147483648%2*1048576+x/4096%256*4096+x/1048576%2*2048+x/2097152%1024*2=v
 intro h
 unfold sx wrap32;split<;>omega
theorem rim_I (x:Int) (x0:0≤x) (x1:x<4294967296):rim (fm 3) x=sx (x/1048576) 2048 4096:=by
 have e:rim (fm 3) x=wrap32 (ib (fm 3) x 4*1048576%4294967296)/1048576:=rfl
 rw[e,ib_I x x0 x1];unfold sx wrap32;split<;>omega
theorem rim_H (x:Int) (x0:0≤x) (x1:x<4294967296):rim (fm 4) x=x/1048576%32:=by
 have e:rim (fm 4) x=wrap32 (ib (fm 4) x 4*1%4294967296)/1:=rfl
 rw[e,ib_H x x0 x1];unfold wrap32;omega
theorem rim_B (x:Int) (x0:0≤x) (x1:x<4294967296):rim (fm 5) x=sx (x/2147483648%2*4096+x/128%2*2048+x/33554432%64*32+x/256%16*2) 4096 8192:=by
 have e:rim (fm 5) x=wrap32 (ib (fm 5) x 4*524288%4294967296)/524288:=rfl
 rw[e,ib_B x x0 x1]
 have h:0≤x/2147483648%2*4096+x/128%2*2048+x/33554432%64*32+x/256%16*2∧x/2147483648%2*4096+x/128%2*2048+x/33554432%64*32+x/256%16*2<8192:=by omega
 revert h
 generalize x/2147483648%2*4096+x/128%2*2048+x/33554432%64*32+x/256%16*2=v
 intro h
 unfold sx wrap32;split<;>omega
theorem rim_S (x:Int) (x0:0≤x) (x1:x<4294967296):rim (fm 6) x=sx (x/33554432*32+x/128%32) 2048 4096:=by
 have e:rim (fm 6) x=wrap32 (ib (fm 6) x 4*1048576%4294967296)/1048576:=rfl
 rw[e,ib_S x x0 x1]
 have h:0≤x/33554432*32+x/128%32∧x/33554432*32+x/128%32<4096:=by omega
 have e2:x/33554432%128*32+x/128%32*1=x/33554432*32+x/128%32:=by omega
 rw[e2]
 revert h
 generalize x/33554432*32+x/128%32=v
 intro h
 unfold sx wrap32;split<;>omega
theorem rim_R (x:Int) (x0:0≤x) (x1:x<4294967296):rim (fm 7) x=0:=by
 have e:rim (fm 7) x=wrap32 (ib (fm 7) x 4*1%4294967296)/1:=rfl
 rw[e,ib_R x x0 x1];unfold wrap32;omega
theorem rim_E (x:Int) (x0:0≤x) (x1:x<4294967296):rim (fm 8) x=0:=by
 have e:rim (fm 8) x=wrap32 (ib (fm 8) x 4*1%4294967296)/1:=rfl
 rw[e,ib_E x x0 x1];unfold wrap32;omega
theorem rrg_7 (x:Int) (x0:0≤x) (x1:x<4294967296):rrg x 128 31=x/128%32:=by
 unfold rrg;rw[and31 _ (by omega) (by omega)];unfold wrap64;omega
theorem rrg_15 (x:Int) (x0:0≤x) (x1:x<4294967296):rrg x 32768 31=x/32768%32:=by
 unfold rrg;rw[and31 _ (by omega) (by omega)];unfold wrap64;omega
theorem rrg_20 (x:Int) (x0:0≤x) (x1:x<4294967296):rrg x 1048576 31=x/1048576%32:=by
 unfold rrg;rw[and31 _ (by omega) (by omega)];unfold wrap64;omega
theorem rrg_7z (x:Int) (x0:0≤x) (x1:x<4294967296):rrg x 128 0=0:=by
 unfold rrg;rw[and_zero32 _ (by omega) (by omega)];unfold wrap64;omega
theorem rrg_15z (x:Int) (x0:0≤x) (x1:x<4294967296):rrg x 32768 0=0:=by
 unfold rrg;rw[and_zero32 _ (by omega) (by omega)];unfold wrap64;omega
theorem rrg_20z (x:Int) (x0:0≤x) (x1:x<4294967296):rrg x 1048576 0=0:=by
 unfold rrg;rw[and_zero32 _ (by omega) (by omega)];unfold wrap64;omega
end Go.Proofs.YtpiohehijkpghacGreatDoor.Hy
namespace Go.Proofs.YtpiohehijkpghacGreatDoor
open Go.RowKit
open Hy
set_option linter.unusedVariables false
theorem fm1:∀m,m<49→(fm (kn m) 1=31∨fm (kn m) 1=0):=by decide
theorem fm2:∀m,m<49→(fm (kn m) 2=31∨fm (kn m) 2=0):=by decide
theorem fm3:∀m,m<49→(fm (kn m) 3=31∨fm (kn m) 3=0):=by decide
theorem fm1b:∀m,m<11→5≤m→fm (kn m) 1=0:=by decide
theorem rd_rng (m:Nat) (hm:m<49) (x:Int) (x0:0≤x) (x1:x≤4294967295):0≤rrg x 128 (fm (kn m) 1)∧rrg x 128 (fm (kn m) 1)<32:=by
 rcases fm1 m hm with h|h
 ·rw[h,rrg_7 x x0 (by omega)];omega
 ·rw[h,rrg_7z x x0 (by omega)];omega
theorem rs1_rng (m:Nat) (hm:m<49) (x:Int) (x0:0≤x) (x1:x≤4294967295):0≤rrg x 32768 (fm (kn m) 2)∧rrg x 32768 (fm (kn m) 2)<32:=by
 rcases fm2 m hm with h|h
 ·rw[h,rrg_15 x x0 (by omega)];omega
 ·rw[h,rrg_15z x x0 (by omega)];omega
theorem rs2_rng (m:Nat) (hm:m<49) (x:Int) (x0:0≤x) (x1:x≤4294967295):0≤rrg x 1048576 (fm (kn m) 3)∧rrg x 1048576 (fm (kn m) 3)<32:=by
 rcases fm3 m hm with h|h
 ·rw[h,rrg_20 x x0 (by omega)];omega
 ·rw[h,rrg_20z x x0 (by omega)];omega
theorem rd_branch (m:Nat) (h0:5≤m) (h1:m≤10) (x:Int) (x0:0≤x) (x1:x≤4294967295):rrg x 128 (fm (kn m) 1)=0:=by
 rw[fm1b m (by omega) h0,rrg_7z x x0 (by omega)]
theorem imm_rng (m:Nat) (hm0:1≤m) (hm:m≤48) (x:Int) (x0:0≤x) (x1:x≤4294967295):-2147483648≤rim (fm (kn m)) x∧rim (fm (kn m)) x≤2147483647:=by
 obtain⟨h9,_,h1⟩:=kn_lt m (by omega)
 have h1':1≤kn m:=by first|exact h1 hm0|exact h1
 generalize kn m=F at h9 h1'
 have x2:x<4294967296:=by omega
 rcases(by omega:F=1∨F=2∨F=3∨F=4∨F=5∨F=6∨F=7∨F=8)with rfl|rfl|rfl|rfl|rfl|rfl|rfl|rfl
 ·rw[rim_U x x0 x2];unfold sx;split<;>omega
 ·rw[rim_J x x0 x2];unfold sx;split<;>omega
 ·rw[rim_I x x0 x2];unfold sx;split<;>omega
 ·rw[rim_H x x0 x2];omega
 ·rw[rim_B x x0 x2];unfold sx;split<;>omega
 ·rw[rim_S x x0 x2];unfold sx;split<;>omega
 ·rw[rim_R x x0 x2];omega
 ·rw[rim_E x x0 x2];omega
def dcdN (X:Int):Nat→Option Nat
 |0=>none
 |k+1=>match dcdN X k with
  |some m=>some m
  |none=>if hit (k+1) X=true then some (k+1)else none
theorem dcdN_none (X:Int):∀k,(∀m,1≤m→m≤k→hit m X=false)→dcdN X k=none
 |0,_=>rfl
 |k+1,h=>by
  unfold dcdN
  rw[dcdN_none X k (fun m h1 h2=>h m h1 (by omega))]
  simp only[]
  rw[h (k+1) (by omega) (Nat.le_refl _)]
  rfl
theorem dcdN_some (X:Int) (n:Nat) (h1:1≤n) (hn:hit n X=true) (hf:∀m,1≤m→m<n→hit m X=false):∀k,n≤k→dcdN X k=some n
 |0,h=>absurd h (by omega)
 |k+1,h=>by
  unfold dcdN
  by_cases e:n=k+1
  ·subst e
   rw[dcdN_none X k (fun m a b=>hf m a (by omega))]
   simp only[hn,if_true]
  ·rw[dcdN_some X n h1 hn hf k (by omega)]
def dcdW (X:Int):Option In:=match dcdN X 48 with
 |some m=>some ⟨m,(rrg X 128 (fm (kn m) 1)).toNat,(rrg X 32768 (fm (kn m) 2)).toNat,(rrg X 1048576 (fm (kn m) 3)).toNat,rim (fm (kn m)) X⟩
 |none=>none
end Go.Proofs.YtpiohehijkpghacGreatDoor
namespace Go.Proofs.YtpiohehijkpghacGreatDoor.Gu
open Go.RowKit
open Gu.Hy
set_option linter.unusedVariables false
theorem gcounterOf_any (pc:Int) (p0:0≤pc) (p1:pc≤4294967295) (w:World):
  Calls Tryz.prog 150 #[.int .u32 pc] w fun e w'=>e=.returned (.int .u32 (pc/4%16))∧w'=w:=by
 go_enter Tryz.func150,Tryz.ntmps150
 go_wp2
 go_ret
 exact⟨by go_num,rfl⟩
theorem gvalueOf_any (pc:Int) (p0:0≤pc) (p1:pc≤4294967295) (w:World):
  Calls Tryz.prog 153 #[.int .u32 pc] w fun e w'=>e=.returned (.int .u32 (pc/4%8))∧w'=w:=by
 go_enter Tryz.func153,Tryz.ntmps153
 go_wp2
 go_ret
 exact⟨by go_num,rfl⟩
theorem gwithin_any (n:Int) (w:World):
  Calls Tryz.prog 184 #[.int .i64 n] w fun e w'=>e=.returned (.int .i64 (bnd n))∧w'=w:=by
 go_enter Tryz.func184,Tryz.ntmps184
 go_wp2
 all_goals(go_ret;refine⟨?_,rfl⟩;simp_all[bnd])
 all_goals omega
theorem bnd_range (n:Int):0≤bnd n∧bnd n≤3:=by
 unfold bnd
 split
 ·omega
 ·split<;>omega
theorem gmore_any (n:Int) (w:World):
  Calls Tryz.prog 151 #[.int .i64 n] w fun e w'=>e=.returned (.int .i64 (bnd (bnd n+1)))∧w'=w:=by
 obtain⟨b0,b1⟩:=bnd_range n
 obtain⟨b,hb⟩:∃b,b=bnd n:=⟨_,rfl⟩
 have H:=gwithin_any n
 rw[←hb]at b0 b1 H⊢
 clear hb
 go_enter Tryz.func151,Tryz.ntmps151
 go_wp2_with(go_at_call 184;refine(H _).mono ?_;rintro e w' ⟨rfl,rfl⟩)
 all_goals(go_ret;refine⟨?_,rfl⟩;unfold bnd;try simp)
 all_goals(repeat' split)<;>first|omega|rfl|skip
theorem gless_any (n:Int) (w:World):
  Calls Tryz.prog 152 #[.int .i64 n] w fun e w'=>e=.returned (.int .i64 (bnd (bnd n-1)))∧w'=w:=by
 obtain⟨b0,b1⟩:=bnd_range n
 obtain⟨b,hb⟩:∃b,b=bnd n:=⟨_,rfl⟩
 have H:=gwithin_any n
 rw[←hb]at b0 b1 H⊢
 clear hb
 go_enter Tryz.func152,Tryz.ntmps152
 go_wp2_with(go_at_call 184;refine(H _).mono ?_;rintro e w' ⟨rfl,rfl⟩)
 all_goals(go_ret;refine⟨?_,rfl⟩;unfold bnd;try simp)
 all_goals(repeat' split)<;>first|omega|rfl|skip
theorem below_drewN {B:Nat} {a w:World} (h:Below B a w) (n:Nat):Below B a (w.drewN n):=⟨h.os,h.tape,h.output,h.size,h.block⟩
theorem gBranch_any (T:Array Value) (pc:Int) (p0:0≤pc) (p1:pc≤4294967295) (L G:Int) (B:Bool) (k:Nat) (hk:k<16) (he:Hid ((k:Int)=pc/4%16)) (hB:Hid (B=decide (2≤L)))
  (hL:T[k*2]?=some (.int .i64 L)) (hG:T[k*2+1]?=some (.int .u32 G)) (w:World):
  Calls Tryz.prog 172 #[.agg T,.int .u32 pc] w fun e w'=>e=.returned (.tuple #[.bool B,.int .u32 G])∧Below w.heap.size w w':=by
 have C:=gcounterOf_any pc p0 p1
 rw[←he.out]at C
 have k0:(0:Int)≤(k:Int):=by omega
 have k1:(k:Int)<16:=by omega
 go_enter Tryz.func172,Tryz.ntmps172
 go_wp2_with fail
 refine(C _).mono ?_
 rintro e w' ⟨rfl,rfl⟩
 go_wp2_with fail
 go_region
 go_wp2_with fail
 go_ret2
 exact⟨by rw[hB.out];rfl,(((Below.refl _ _).alloc (Nat.le_refl _) _).alloc (by simp) _).drew⟩
theorem gValue_any (T:Array Value) (pc:Int) (p0:0≤pc) (p1:pc≤4294967295) (P A S U V:Int) (B:Bool) (a0:0≤A) (a1:A≤4294967295) (s0:0≤S) (s1:S≤4294967295) (k:Nat) (hk:k<8) (he:Hid ((k:Int)=pc/4%8))
  (hB:Hid (B=decide (P=pc∧2≤U))) (hV:Hid (V=if B then(A+S)%4294967296 else 0))
  (hP:T[32+k*4]?=some (.int .u32 P)) (hA:T[32+k*4+1]?=some (.int .u32 A)) (hS:T[32+k*4+2]?=some (.int .u32 S)) (hU:T[32+k*4+3]?=some (.int .i64 U)) (w:World):
  Calls Tryz.prog 173 #[.agg T,.int .u32 pc] w fun e w'=>e=.returned (.tuple #[.int .u32 V,.bool B])∧Below w.heap.size w w':=by
 have C:=gvalueOf_any pc p0 p1
 rw[←he.out]at C
 have k0:(0:Int)≤(k:Int):=by omega
 have k1:(k:Int)<8:=by omega
 go_enter Tryz.func173,Tryz.ntmps173
 go_wp2_with fail
 refine(C _).mono ?_
 rintro e w' ⟨rfl,rfl⟩
 go_wp2_with fail
 all_goals go_ret2
 all_goals(refine⟨?_,((Below.refl _ _).alloc (Nat.le_refl _) _).alloc (by simp) _⟩;rw[hV.out,hB.out];simp_all)
 all_goals(intro h;omega)
end Go.Proofs.YtpiohehijkpghacGreatDoor.Gu
