/- Pop: the program. -/
import Derived.WalkKit
import Derived.ProofKit
import Derived.OwnWalk
import Derived.Below
import Derived.Laws.OwnMore
import Derived.Test.YtpiohehijkpghabGreatDoorChecked
import Derived.Deep.MidRow
import Derived.Deep.WholeRow
import Derived.Laws.Rows
import Derived.Laws.Tables
import Derived.Deep.QuietTactic
import Derived.BigQuiet
import Derived.Deep.Cut
import Derived.Deep.RegionWith
import Derived.Deep.RegionHeld
import Derived.Shelf.Abstract
import Derived.Lib.SliceRun
set_option maxRecDepth 20000
set_option maxHeartbeats 1000000
set_option linter.unusedVariables false
open Go.Proofs.Tryz
namespace Go.Proofs.YtpiohehijkpghabGreatDoor.Wi
open Go.RowKit
abbrev Sl:=Int×Bool
def scs:List Sl->List Value
 |[]=>[]
 |p::l=>.int .i64 p.1::.bool p.2::scs l
theorem ya:∀l:List Sl,(scs l).length=l.length*2
 |[]=>rfl
 |p::l=>by have:=ya l;simp[scs,this];omega
theorem zdj:∀l m:List Sl,scs (l++m)=scs l++scs m
 |[],m=>rfl
 |p::l,m=>by have:=zdj l m;simp[scs,this]
theorem za3:∀(l:List Sl) (k:Nat) (p:Sl),l[k]?=some p->(scs l)[k*2]?=some (.int .i64 p.1)
 |[],k,p,h=>by simp at h
 |q::l,0,p,h=>by simp at h;subst h;rfl
 |q::l,k+1,p,h=>by
  have:=za3 l k p (by simpa using h)
  rw[show(k+1)*2=k*2+1+1 by omega]
  simpa[scs]using this
theorem ko:∀(l:List Sl) (k:Nat) (p:Sl),l[k]?=some p->(scs l)[k*2+1]?=some (.bool p.2)
 |[],k,p,h=>by simp at h
 |q::l,0,p,h=>by simp at h;subst h;rfl
 |q::l,k+1,p,h=>by
  have:=ko l k p (by simpa using h)
  rw[show(k+1)*2+1=k*2+1+1+1 by omega]
  simpa[scs]using this
theorem yU:∀(l:List Sl),∀u∈scs l,u.oneCell'=true
 |[],u,h=>by simp[scs]at h
 |p::l,u,h=>by
  simp only[scs,List.mem_cons]at h
  rcases h with rfl|rfl|h
  ·rfl
  ·rfl
  ·exact yU l u h
theorem za4:∀(l:List Sl) (m:Nat),scs (l.drop m)=(scs l).drop (m*2)
 |l,0=>by simp
 |[],m+1=>by simp[scs]
 |p::l,m+1=>by
  have:=za4 l m
  rw[show(m+1)*2=m*2+1+1 by omega]
  simpa[scs]using this
theorem zg4:∀(l:List Sl) (k:Nat) (s:Int),(l[k]?).map (·.1)=some s->(scs l).set (k*2+1) (.bool true)=scs (l.set k (s,true))
 |[],k,s,h=>by simp at h
 |q::l,0,s,h=>by simp at h;subst h;rfl
 |q::l,k+1,s,h=>by
  have:=zg4 l k s (by simpa using h)
  rw[show(k+1)*2+1=k*2+1+1+1 by omega]
  simp[scs,this]
def ics(l:List Int):List Value:=l.map fun x=>Value.int .i64 x
theorem qM(l:List Int):(ics l).length=l.length*1:=by simp[ics]
theorem za5(l m:List Int):ics (l++m)=ics l++ics m:=by simp[ics]
theorem jE{l:List Int}{k:Nat}{x:Int}(h:l[k]?=some x):(ics l)[k]?=some (.int .i64 x):=by simp[ics,h]
theorem jF(l:List Int):∀u∈ics l,u.oneCell'=true:=by
 intro u hu
 obtain⟨x,_,rfl⟩:=List.mem_map.1 hu
 rfl
theorem zdk(l:List Int)(k:Nat)(x:Int):(ics l).set k (.int .i64 x)=ics (l.set k x):=by simp[ics,List.map_set]
structure LC(w:World)(a:Option Addr)(n c size:Nat)(cs:List Value):Prop where
 len:cs.length=n*size
 le:n<=c
 top:c<=maxLen
 nil:a=none->n=0/\c=0
 one:∀u∈cs,u.oneCell'=true
 ad:∀x,a=some x->0<n->∃b o,x=⟨b,o,none⟩/\b<w.heap.size/\∀j u,cs[j]?=some u->w.cell? ⟨b,o+j,none⟩=some u
theorem LC.below{w w':World}{a:Option Addr}{n c size:Nat}{cs:List Value}(h:LC w a n c size cs){B:Nat}(hB:w.heap.size<=B)(hb:Below B w w'):LC w' a n c size cs:=
 ⟨h.len,h.le,h.top,h.nil,h.one,fun x hx h0=>by
  obtain⟨b,o,rfl,hlt,hc⟩:=h.ad x hx h0
  exact⟨b,o,rfl,Nat.lt_of_lt_of_le hlt hb.size,fun j u hj=>(hb.cell (p:=⟨b,o+j,none⟩) (Nat.lt_of_lt_of_le hlt hB)).trans (hc j u hj)⟩⟩
theorem LC.sure{w:World}{a:Option Addr}{n c size:Nat}{cs:List Value}(h:LC w a n c size cs)(hn:0<n):∃b o,a=some ⟨b,o,none⟩/\b<w.heap.size/\∀j u,cs[j]?=some u->w.cell? ⟨b,o+j,none⟩=some u:=by
 cases a with
 |none=>have:=(h.nil rfl).1;omega
 |some x=>
  obtain⟨b,o,rfl,hc⟩:=h.ad x rfl hn
  exact⟨b,o,rfl,hc⟩
def FarC(B:Nat)(a:Option Addr):Prop:=∀x,a=some x->B<=x.block
theorem xi(w:World)(size:Nat):LC w none 0 0 size []:=⟨by simp,Nat.le_refl _,by unfold maxLen;omega,fun _=>⟨rfl,rfl⟩,fun u hu=>by simp at hu,fun x hx _=>by cases hx⟩
theorem zb9(B:Nat):FarC B none:=fun x hx=>by cases hx
theorem qQ{w:World}{B e n size:Nat}{v:Value}{cs:List Value}(hown:w.ownsRow B e size v n cs)(h1:∀u∈cs,u.oneCell'=true):∃a c,v=.slice a n c/\LC w a n c size cs/\FarC B a:=by
 have hown0:=hown
 obtain⟨hl,hcase⟩:=hown
 rcases hcase with⟨rfl,rfl⟩|⟨g,cap,cur,rfl,hg,hh,hn',hcap,hsz,htake⟩
 ·obtain rfl:cs=[]:=List.eq_nil_of_length_eq_zero (by simpa using hl)
  exact⟨none,0,rfl,xi _ _,zb9 _⟩
 ·refine⟨_,cap,rfl,⟨hl,hn',hcap,fun h=>(nomatch h),h1,fun x hx _=>⟨g,0,(Option.some.inj hx).symm,(Array.getElem?_eq_some_iff.1 hh).1,fun j u hj=>?_⟩⟩,fun x hx=>by obtain rfl:=Option.some.inj hx;exact hg⟩
  have:=hown0.cells (g:=g) rfl j _ hj
  rwa [Addr.add_lit]at this
theorem LC.drop{w:World}{b o n c size:Nat}{cs:List Value}(h:LC w (some ⟨b,o,none⟩) n c size cs)(m:Nat)(hm:m<=n){a:Option Addr}(ha:m<n->a=some ⟨b,o+m*size,none⟩)(hs:a.isSome=true):LC w a (n-m) (c-m) size (cs.drop (m*size)):=by
 refine⟨by rw[List.length_drop,h.len,Nat.sub_mul],by have:=h.le;omega,by have:=h.top;omega,fun e=>by rw[e]at hs;simp at hs,fun u hu=>h.one u (List.mem_of_mem_drop hu),fun x hx h0=>?_⟩
 obtain⟨b',o',e,hlt,hc⟩:=h.ad _ rfl (by omega)
 cases e
 rw[ha (by omega)]at hx
 refine⟨b,o+m*size,(Option.some.inj hx).symm,hlt,fun j u hj=>?_⟩
 rw[List.getElem?_drop]at hj
 rw[Nat.add_assoc]
 exact hc _ _ hj
theorem zD{P:Program}(w:World){ops:Array Oper}{rest:List Oper}{o:Oper}{a:Act}{Q:Exit->Act->World->Prop}(hgd:o.guard=none)(s x:Operand)(t:TypeId)
  (ho:o.op=.call {callee:=.builtin .append,args:=#[s,x],argTypes:=#[t,t]})
  (base:Nat) (e:TypeId) (i:TypeInfo) (z:Value) (size bytes:Nat) (ht:P.underlying t=some (.slice e)) (hi:P.info? e=some i) (hz:i.zero=some z)
  (hsize:i.size=size) (hby:i.bytes=bytes) (hzs:z.cells.size=size) (hsz:0<size)
  (v:Value) (n:Nat) (xs:List Value) (hs:a.eval s=v) (hown:w.ownsRow base e size v n xs)
  (ao:Option Addr) (m c:Nat) (cs:List Value) (hx:a.eval x=.slice ao m c) (hl:LC w ao m c size cs) (h63:n+m<=maxLen) (hb:(n+m)*bytes<=140737488355328) (hbase:base<=w.heap.size)
  (h:∀v' w',w'.ownsRow base e size v' (n+m) (xs++cs)->w.grownBy w' v.ownBlock->wpList P ops Q rest (a.put o.dst v') w'):wpList P ops Q (o::rest) a w:=by
 cases ao with
 |some ad=>
  by_cases hm:0<m
  ·refine wpList_append_own w hgd s x t ho base e i z size bytes ht hi hz hsize hby hzs hsz v n _ hs hown ad m c cs hx hl.len (fun j u hj=>?_) hl.one h63 hb hbase fun v' w' h1 h2 _=>h v' w' h1 h2
   obtain⟨b,o',rfl,_,hc⟩:=hl.ad ad rfl hm
   rw[Addr.add_lit]
   exact hc j u hj
  ·obtain rfl:m=0:=by omega
   refine wpList_append_own w hgd s x t ho base e i z size bytes ht hi hz hsize hby hzs hsz v n _ hs hown ad 0 c cs hx hl.len (fun j u hj=>?_) hl.one h63 hb hbase fun v' w' h1 h2 _=>h v' w' h1 h2
   have hnil:cs=[]:=List.eq_nil_of_length_eq_zero (by simpa using hl.len)
   rw[hnil]at hj
   simp at hj
 |none=>
  obtain⟨rfl,rfl⟩:=hl.nil rfl
  obtain rfl:cs=[]:=List.eq_nil_of_length_eq_zero (by simpa using hl.len)
  refine wpList_plain hgd fun K hK'=>?_
  have hrun:=run_append_owned_none (P:=P) w base t o.type e i size ht hi v n _ hown
  unfold Oper.wp
  simp only[execOp,ho,resolve,invoke,builtin,Sem.run_bind,Sem.run_pure,Result.andThen_ok,List.map_toArray,List.map_cons,List.map_nil,hs,hx,hrun]
  exact hK' _ _ (h v w (by simpa using hown) (World.grownBy.refl _ _))
structure First(p:Sl->Bool)(l:List Sl)(m:Nat):Prop where
 le:m<=l.length
 no:∀j q,j<m->l[j]?=some q->p q=false
 yes:∀q,l[m]?=some q->p q=true
structure Goes(l:List Sl)(most:Int)(m:Nat):Prop where
 le:m<=l.length
 go:∀j q,j<m->l[j]?=some q->(j:Int)<most/\q.2=true
 stop:∀q,l[m]?=some q->¬((m:Int)<most/\q.2=true)
theorem zg5{l:List Sl}{k:Nat}(h:k<l.length):∃s d,l[k]?=some (s,d):=⟨_,_,List.getElem?_eq_getElem h⟩
theorem take_at{α:Type}{l:List α}{k:Nat}{p:α}(h:l[k]?=some p):l.take (k+1)=l.take k++[p]:=by
 rw[List.take_add_one,h];rfl
def cutS(l:List Sl)(seq:Int):List Int:=((l.filter fun q=>decide (seq<=q.1)).map (·.1)).reverse
def yV(l:List Sl)(seq:Int):List Sl:=l.filter fun q=>!decide (seq<=q.1)
theorem zkC:(prog.info? 3).map (fun i=>(i.zero,i.size,i.bytes))=some (some (.int .i64 0),1,8):=by kernel_rfl
theorem zca:(prog.info? 120).map (fun i=>(i.zero,i.size,i.bytes))=some (some (.agg #[.int .i64 0,.bool false]),2,16):=by kernel_rfl
def above(seq:Int)(q:Sl):Bool:=decide (seq<=q.1)
def waits(seq:Int)(q:Sl):Bool:=decide (q.1=seq)&&!q.2
def Asks(g:Nat)(b:Nat)(p:Sl->Bool)(w:World):Prop:=
 ∀(W:World) (s:Int) (d:Bool),Below w.heap.size w W->Calls prog g #[.agg #[.int .i64 s,.bool d],.pointer (some ⟨b,0,none⟩)] W fun e w'=>e=.returned (.bool (p (s,d)))/\Below W.heap.size W w'
theorem yW(B:Nat)(seq:Int)(w:World)(hc:w.cell? ⟨B,0,none⟩=some (.int .i64 seq)):Asks 143 B (above seq) w:=by
 intro W s d hb
 have hB:B<w.heap.size:=World.block_lt_of_cell? _ _ hc
 have hc1:W.cell? ⟨B,0,none⟩=some (.int .i64 seq):=(hb.cell (p:=⟨B,0,none⟩) hB).trans hc
 have hB1:B<W.heap.size:=Nat.lt_of_lt_of_le hB hb.size
 clear hb hc hB
 go_enter func143,ntmps143
 go_wp2
 go_ret
 exact⟨rfl,(Below.refl _ _).alloc (Nat.le_refl _) _⟩
theorem zfy(B:Nat)(seq:Int)(w:World)(hc:w.cell? ⟨B,0,none⟩=some (.int .i64 seq)):Asks 131 B (waits seq) w:=by
 intro W s d hb
 have hB:B<w.heap.size:=World.block_lt_of_cell? _ _ hc
 have hc1:W.cell? ⟨B,0,none⟩=some (.int .i64 seq):=(hb.cell (p:=⟨B,0,none⟩) hB).trans hc
 have hB1:B<W.heap.size:=Nat.lt_of_lt_of_le hB hb.size
 clear hb hc hB
 by_cases e:s=seq
 ·subst e
  go_enter func131,ntmps131
  go_wp2
  go_ret
  exact⟨by simp[waits],(Below.refl _ _).alloc (Nat.le_refl _) _⟩
 ·have e2:(s==seq)=false:=by simpa using e
  go_enter func131,ntmps131
  go_wp2
  go_ret
  exact⟨by simp[waits,e],(Below.refl _ _).alloc (Nat.le_refl _) _⟩
theorem zg6:∀args w,(callFunc 143 args).run prog w=.ok (.enter 143 args) w:=enters_of func143 (by kernel_rfl) rfl
theorem zjn:∀args w,(callFunc 131 args).run prog w=.ok (.enter 131 args) w:=enters_of func131 (by kernel_rfl) rfl
theorem xK(g b:Nat)(p:Sl->Bool)(eg:∀args w,(callFunc g args).run prog w=.ok (.enter g args) w)(a:Option Addr)(n c:Nat)(hn:n<=140737488355328)(l:List Sl)(m:Nat)(hm:Hid (First p l m))(r:Int)(hr:Hid (r=if m<n then(m:Int)else-1))(w:World)(hL:Hid (LC w a n c 2 (scs l)))(hA:Hid (Asks g b p w)):
  Calls prog 130 #[.slice a n c,.func (.func g) #[] #[.pointer (some ⟨b,0,none⟩)]] w fun e w'=>e=.returned (.int .i64 r)/\Below w.heap.size w w':=by
 have hlen:Hid (l.length=n):=by have:=hL.out.len;rw[ya]at this;show _=_;omega
 have hmn:m<=n:=by have:=hm.out.le;have:=hlen.out;omega
 go_enter func130,ntmps130
 go_wp2_with fail
 go_loopw [8] (fun i wr=>∃k:Nat,k<=m/\i=.int .i64 k/\Hid (Below w.heap.size w wr))
  (fun i _=>n-(intOf i).toNat)
 case atStart=>exact⟨0,by omega,rfl,Below.refl _ _⟩
 case round=>
  obtain⟨k,hk,rfl,HB⟩:=hrel
  by_cases hlt:k<n
  ·obtain⟨s,d,hsd⟩:=zg5 (l:=l) (k:=k) (by rw[hlen.out];exact hlt)
   obtain⟨bb,o,rfl,hb,hc⟩:=hL.out.sure (by omega)
   have c0:wr.cell? ⟨bb,o+k*2,none⟩=some (.int .i64 s):=(HB.out.cell (p:=⟨bb,o+k*2,none⟩) hb).trans (hc _ _ (za3 _ _ _ hsd))
   have c1:wr.cell? ⟨bb,o+k*2+1,none⟩=some (.bool d):=(HB.out.cell (p:=⟨bb,o+k*2+1,none⟩) hb).trans (by rw[Nat.add_assoc];exact hc _ _ (ko _ _ _ hsd))
   have hcall:=hA.out wr s d HB.out
   by_cases hkm:k=m
   ·subst hkm
    have hp:p (s,d)=true:=hm.out.yes _ hsd
    rw[hp]at hcall
    have hrk:r=k:=by rw[hr.out,if_pos hlt]
    subst hrk
    clear hc hsd hp
    go_wp2_with fail
    refine hcall.mono ?_
    rintro e w' ⟨rfl,hb'⟩
    have HB':Hid (Below w.heap.size w w'):=HB.out.trans (hb'.mono HB.out.size)
    clear hcall hb' c0 c1
    go_wp2_with fail
    go_ret
    exact⟨rfl,HB'.out⟩
   ·have hp:p (s,d)=false:=hm.out.no k _ (by omega) hsd
    rw[hp]at hcall
    clear hc hsd hp
    go_wp2_with fail
    refine hcall.mono ?_
    rintro e w' ⟨rfl,hb'⟩
    have HB':Hid (Below w.heap.size w w'):=HB.out.trans (hb'.mono HB.out.size)
    clear hcall hb' c0 c1
    go_wp2_with fail
    exact⟨⟨k+1,by omega,by go_num,HB'⟩,by simp[intOf];omega⟩
  ·have:k=n:=by omega
   subst this
   have hrk:r=-1:=by rw[hr.out,if_neg (by omega)]
   subst hrk
   go_wp2_with fail
   go_ret
   exact⟨rfl,HB.out⟩
theorem jO(g b:Nat)(p:Sl->Bool)(eg:∀args w,(callFunc g args).run prog w=.ok (.enter g args) w)(a:Option Addr)(n c:Nat)(hn:n<=140737488355328)(l:List Sl)(m:Nat)(hm:Hid (First p l m))(r:Bool)(hr:Hid (r=decide (m<n)))(w:World)(hL:Hid (LC w a n c 2 (scs l)))(hA:Hid (Asks g b p w)):
  Calls prog 112 #[.slice a n c,.func (.func g) #[] #[.pointer (some ⟨b,0,none⟩)]] w fun e w'=>e=.returned (.bool r)/\Below w.heap.size w w':=by
 obtain⟨x,hx⟩:∃x,Hid (x=if m<n then(m:Int)else-1):=⟨_,rfl⟩
 have C:=fun w hL hA=>xK g b p eg a n c hn l m hm x hx w hL hA
 have hr2:Hid (decide (0<=x)=r):=by
  show _=_
  rw[hr.out,hx.out]
  by_cases h:m<n
  ·rw[if_pos h];simp[h]
  ·rw[if_neg h];simp[h]
 go_enter func112,ntmps112
 go_wp2_with fail
 refine(C _ hL hA).mono ?_
 rintro e w' ⟨rfl,hb⟩
 have HB:Hid (Below w.heap.size w w'):=hb
 clear hb C
 go_wp2_with fail
 go_ret
 exact⟨by simp[hr2.out],HB.out⟩
theorem yX(seq:Int)(w:World):Calls prog 113 #[.int .i64 seq] w fun e w'=>e=.returned (.func (.func 143) #[] #[.pointer (some ⟨w.heap.size,0,none⟩)])/\w'.cell? ⟨w.heap.size,0,none⟩=some (.int .i64 seq)/\Below w.heap.size w w':=by
 have hmf:∀(fn:Fn) (first cap:Array Value) (w:World),(Instr.makeFunc fn first cap).run prog w=.ok (.func fn first cap) w:=fun _ _ _ _=>rfl
 go_enter func113,ntmps113
 go_wp2
 go_ret
 exact⟨rfl,by simp,(Below.refl _ _).alloc (Nat.le_refl _) _⟩
theorem zdl(b o n c:Nat)(hn:n*16<=140737488355328)(cs:List Value)(w:World)(hL:Hid (LC w (some ⟨b,o,none⟩) n c 2 cs)):
  Calls prog 132 #[.slice (some ⟨b,o,none⟩) n c] w fun e w'=>(∃v',e=.returned v'/\w'.ownsRow w.heap.size 120 2 v' n cs)/\Below w.heap.size w w':=by
 obtain⟨i0,hi,hz0,hz1,hz2⟩:=info_parts zca
 have q22:∀(w:World) (a:Option Addr) (n c n' c':Nat),(binOp .eql 57 (.slice a n c) (.slice none n' c')).run prog w=.ok (.bool a.isNone) w:=fun w a n c n' c'=>Lib.run_eql_slice_nil w _ _ a n c n' c' underlying57
 go_enter func132,ntmps132
 go_wp2_with(at_builtin;refine zD _ rfl _ _ 57 rfl w.heap.size 120 i0 _ 2 16 underlying57 hi hz0 hz1 hz2 rfl (by decide) _ 0 [] rfl (World.ownsRow_made w #[] 0 (Nat.le_refl _) (Nat.zero_le _) rfl) _ n c cs rfl (hL.out.below (Nat.le_refl _) ((Below.refl _ _).alloc (Nat.le_refl _) _)) (by unfold maxLen;omega) (by omega) (by simp) ?_)
 intro v' w1 hown hgrow
 go_wp2
 go_ret
 exact⟨⟨_,rfl,by simpa using hown⟩,((Below.refl _ w).alloc (Nat.le_refl _) _).grown hgrow (by simp) (by intro k hk;simp[Value.ownBlock]at hk;omega)⟩
theorem zg7(N:Nat)(h0:0<N)(hN:N*16<=140737488355328)(w:World):
  Calls prog 84 #[.slice none 0 0,.int .i64 N] w fun e w'=>(∃v',e=.returned v'/\w'.ownsRow w.heap.size 120 2 v' 0 [])/\Below w.heap.size w w':=by
 obtain⟨i0,hi,hz0,hz1,hz2⟩:=info_parts zca
 go_enter func84,ntmps84
 go_wp2
 all_goals have e8:t120.bytes=16:=rfl
 all_goals have e9:Builtin.nextslicecap N 0*t120.bytes<=281474976710656:=growslice_fits h0 (by rw[e8];omega)
 all_goals try(exfalso;first|omega|(simp only[e8]at*;omega))
 go_ret
 have hge:=grownCap_ge w N 0 120
 have hle:=grownCap_le_maxLen w N 0 120 (by unfold maxLen;omega)
 refine⟨⟨_,rfl,World.ownsRow_made w _ _ (Nat.le_refl _) hle ?_⟩,(((Below.refl _ _).alloc (Nat.le_refl _) _).drew)⟩
 simp only[Array.size_append,size_zeroCells]
 show N*2+(grownCap w N 0 120-N)*2=grownCap w N 0 120*2
 omega
theorem zfz(w:World):
  Calls prog 84 #[.slice none 0 0,.int .i64 0] w fun e w'=>(∃v',e=.returned v'/\w'.ownsRow w.heap.size 120 2 v' 0 [])/\Below w.heap.size w w':=by
 go_enter func84,ntmps84
 go_wp2
 go_ret
 exact⟨⟨_,rfl,World.ownsRow_nil _ _ _ _⟩,Below.refl _ _⟩
theorem zcb(N:Nat)(hN:N*16<=140737488355328)(w:World):
  Calls prog 84 #[.slice none 0 0,.int .i64 N] w fun e w'=>(∃v',e=.returned v'/\w'.ownsRow w.heap.size 120 2 v' 0 [])/\Below w.heap.size w w':=by
 by_cases h:0<N
 ·exact zg7 N h hN w
 ·obtain rfl:N=0:=by omega
  exact zfz w
theorem zdm(q:Nat)(a1 a2:Option Addr)(n1 c1 n2 c2:Nat)(cs1 cs2:List Value)(hn:(n1+n2)*16<=140737488355328)(w:World)
  (hq:q<w.heap.size) (k0:w.cell? ⟨q,0,none⟩=some (.slice a1 n1 c1)) (k1:w.cell? ⟨q,1,none⟩=some (.slice a2 n2 c2)) (hL1:Hid (LC w a1 n1 c1 2 cs1)) (hL2:Hid (LC w a2 n2 c2 2 cs2)):
  Calls prog 61 #[.slice (some ⟨q,0,none⟩) 2 2] w fun e w'=>(∃v',e=.returned v'/\w'.ownsRow w.heap.size 120 2 v' (n1+n2) (cs1++cs2))/\Below w.heap.size w w':=by
 obtain⟨i0,hi,hz0,hz1,hz2⟩:=info_parts zca
 have C:=fun w=>zcb (n1+n2) hn w
 simp only[Int.natCast_add]at C
 go_enter func61,ntmps61
 go_wp2_with fail
 refine wp_loop_rounds 3 ?_
 rw[rounds_succ]
 go_wp2_with fail
 rw[rounds_succ]
 go_wp2_with fail
 rw[rounds_succ]
 go_wp2_with fail
 refine(C _).mono ?_
 rintro e W1 ⟨⟨v,rfl,hown⟩,hk⟩
 have j0:W1.cell? ⟨q,0,none⟩=some (.slice a1 n1 c1):=(hk.cell (p:=⟨q,0,none⟩) hq).trans k0
 have j1:W1.cell? ⟨q,1,none⟩=some (.slice a2 n2 c2):=(hk.cell (p:=⟨q,1,none⟩) hq).trans k1
 have HO:Hid (W1.ownsRow w.heap.size 120 2 v 0 []):=hown
 have HK:Hid (Below w.heap.size w W1):=hk
 clear hown hk k0 k1 C
 go_wp2_with fail
 refine wp_loop_rounds 3 ?_
 rw[rounds_succ]
 go_wp2_with(at_builtin;refine zD _ rfl _ _ 57 rfl w.heap.size 120 i0 _ 2 16 underlying57 hi hz0 hz1 hz2 rfl (by decide) _ 0 [] rfl HO.out _ n1 c1 cs1 rfl (hL1.out.below (Nat.le_refl _) HK.out) (by unfold maxLen;omega) (by omega) HK.out.size ?_;intro v1 w1 hown1 hgrow1)
 have m1:w1.cell? ⟨q,1,none⟩=some (.slice a2 n2 c2):=hgrow1.cell j1 (by intro e;have h:w.heap.size<=q:=(HO.out.lt _ e.symm).1;omega)
 have HO1:Hid (w1.ownsRow w.heap.size 120 2 v1 n1 cs1):=by show World.ownsRow _ _ _ _ _ _ _;simpa using hown1
 have HK1:Hid (Below w.heap.size w w1):=HK.out.grown hgrow1 HK.out.size (fun k hk=>(HO.out.lt k hk).1)
 clear hown1 hgrow1 HO HK j0 j1
 rw[rounds_succ]
 go_wp2_with(at_builtin;refine zD _ rfl _ _ 57 rfl w.heap.size 120 i0 _ 2 16 underlying57 hi hz0 hz1 hz2 rfl (by decide) _ n1 cs1 rfl HO1.out _ n2 c2 cs2 rfl (hL2.out.below (Nat.le_refl _) HK1.out) (by unfold maxLen;omega) (by omega) HK1.out.size ?_;intro v2 w2 hown2 hgrow2)
 have HK2:Hid (Below w.heap.size w w2):=HK1.out.grown hgrow2 HK1.out.size (fun k hk=>(HO1.out.lt k hk).1)
 have HO2:Hid (w2.ownsRow w.heap.size 120 2 v2 (n1+n2) (cs1++cs2)):=hown2
 clear hown2 hgrow2
 rw[rounds_succ]
 go_wp2_with fail
 go_ret
 exact⟨⟨_,rfl,HO2.out⟩,HK2.out⟩
theorem jV(q:Nat)(a1:Option Addr)(n1 c1:Nat)(cs1:List Value)(hn:n1*16<=140737488355328)(w:World)
  (hq:q<w.heap.size) (k0:w.cell? ⟨q,0,none⟩=some (.slice a1 n1 c1)) (hL1:Hid (LC w a1 n1 c1 2 cs1)):
  Calls prog 61 #[.slice (some ⟨q,0,none⟩) 1 1] w fun e w'=>(∃v',e=.returned v'/\w'.ownsRow w.heap.size 120 2 v' n1 cs1)/\Below w.heap.size w w':=by
 obtain⟨i0,hi,hz0,hz1,hz2⟩:=info_parts zca
 have C:=fun w=>zcb n1 hn w
 go_enter func61,ntmps61
 go_wp2_with fail
 refine wp_loop_rounds 2 ?_
 rw[rounds_succ]
 go_wp2_with fail
 rw[rounds_succ]
 go_wp2_with fail
 refine(C _).mono ?_
 rintro e W1 ⟨⟨v,rfl,hown⟩,hk⟩
 have j0:W1.cell? ⟨q,0,none⟩=some (.slice a1 n1 c1):=(hk.cell (p:=⟨q,0,none⟩) hq).trans k0
 have HO:Hid (W1.ownsRow w.heap.size 120 2 v 0 []):=hown
 have HK:Hid (Below w.heap.size w W1):=hk
 clear hown hk k0 C
 go_wp2_with fail
 refine wp_loop_rounds 2 ?_
 rw[rounds_succ]
 go_wp2_with(at_builtin;refine zD _ rfl _ _ 57 rfl w.heap.size 120 i0 _ 2 16 underlying57 hi hz0 hz1 hz2 rfl (by decide) _ 0 [] rfl HO.out _ n1 c1 cs1 rfl (hL1.out.below (Nat.le_refl _) HK.out) (by unfold maxLen;omega) (by omega) HK.out.size ?_;intro v1 w1 hown1 hgrow1)
 have HO1:Hid (w1.ownsRow w.heap.size 120 2 v1 n1 cs1):=by show World.ownsRow _ _ _ _ _ _ _;simpa using hown1
 have HK1:Hid (Below w.heap.size w w1):=HK.out.grown hgrow1 HK.out.size (fun k hk=>(HO.out.lt k hk).1)
 clear hown1 hgrow1 HO HK j0
 rw[rounds_succ]
 go_wp2_with fail
 go_ret
 exact⟨⟨_,rfl,HO1.out⟩,HK1.out⟩
theorem qP{w:World}{base base':Nat}{e:TypeId}{size:Nat}{v:Value}{n:Nat}{xs:List Value}(h:w.ownsRow base e size v n xs)(hb:base'<=base):w.ownsRow base' e size v n xs:=by
 obtain⟨h1,h2⟩:=h
 refine⟨h1,?_⟩
 rcases h2 with h2|⟨g,cap,cur,hv,hg,r⟩
 ·exact .inl h2
 ·exact .inr ⟨g,cap,cur,hv,Nat.le_trans hb hg,r⟩
theorem zjo{w w':World}{base:Nat}{e:TypeId}{size:Nat}{v:Value}{n:Nat}{xs:List Value}(h:w.ownsRow base e size v n xs)(hb:∀g,v.ownBlock=some g->w'.heap[g]?=w.heap[g]?):w'.ownsRow base e size v n xs:=by
 obtain⟨h1,h2⟩:=h
 refine⟨h1,?_⟩
 rcases h2 with h2|⟨g,cap,cur,hv,hg,hh,r⟩
 ·exact .inl h2
 ·exact .inr ⟨g,cap,cur,hv,hg,(hb g (by rw[hv];rfl)).trans hh,r⟩
theorem zy{w w':World}{base:Nat}{e:TypeId}{size:Nat}{v:Value}{n:Nat}{xs:List Value}(h:w.ownsRow base e size v n xs){B:Nat}(hB:w.heap.size<=B)(hb:Below B w w'):w'.ownsRow base e size v n xs:=
 zjo h fun g hg=>hb.block g (Nat.lt_of_lt_of_le (h.lt g hg).2 hB)
theorem yY{w:World}{base:Nat}{e:TypeId}{size:Nat}{v:Value}{n:Nat}{xs:List Value}(h:w.ownsRow base e size v n xs):∃lp lc,v=.slice lp n lc:=by
 rcases h.2 with⟨hv,rfl⟩|⟨g,cap,cur,hv,_⟩
 ·exact⟨_,_,hv⟩
 ·exact⟨_,_,hv⟩
theorem zA{Φ:World->Prop}{w:World}{A:Obj}(h:∀W:World,W.heap[w.heap.size]?=some A->Below w.heap.size w W->Φ W):Φ (w.alloc A):=
 h _ (heap_alloc_new _ _) ((Below.refl _ _).alloc (Nat.le_refl _) _)
theorem qH{Φ:World->Prop}{w:World}{A B:Obj}(h:∀W:World,W.heap[w.heap.size]?=some A->W.heap[w.heap.size+1]?=some B->Below w.heap.size w W->w.heap.size+2<=W.heap.size->Φ W):Φ ((w.alloc A).alloc B):=
 h _ (heap_alloc2_old _ _ _) (heap_alloc2_new _ _ _) (((Below.refl _ _).alloc (Nat.le_refl _) _).alloc (by simp) _) (by simp)
theorem zar{w:World}{g n size:Nat}{t:TypeId}{cs:List Value}(h:w.heap[g]?=some (.cells cs.toArray t (0,0)))(h1:∀u∈cs,u.oneCell'=true)(hl:cs.length=n*size)(hm:n<=maxLen:=by unfold maxLen;omega):LC w (some ⟨g,0,none⟩) n n size cs:=
 ⟨hl,Nat.le_refl _,hm,fun h=>(nomatch h),h1,fun x hx _=>⟨g,0,(Option.some.inj hx).symm,(Array.getElem?_eq_some_iff.1 h).1,fun j u hj=>by
  rw[cell_of_row _ _ _ _ _ _ h]
  simpa using hj⟩⟩
theorem zec{w:World}{B e n size:Nat}{v:Value}{cs:List Value}(hown:w.ownsRow B e size v n cs)(hn:0<n):∃g cap,v=.slice (some ⟨g,0,none⟩) n cap:=by
 rcases hown.2 with⟨_,h⟩|⟨g,cap,cur,h,_⟩
 ·omega
 ·exact⟨g,cap,h⟩
def zfA(w:World)(l:List Sl)(ok:Bool)(e:Ending)(w':World):Prop:=
 (∃a c,e=.returned (.tuple #[.slice a l.length c,.bool ok])/\LC w' a l.length c 2 (scs l)/\FarC w.heap.size a)/\Below w.heap.size w w'
theorem zed{w w':World}{e:Ending}(he:e=.returned (.tuple #[.slice none 0 0,.bool false]))(hb:Below w.heap.size w w'):zfA w [] false e w':=
 ⟨⟨none,0,he,xi _ _,zb9 _⟩,hb⟩
theorem zcc{w w':World}{v:Value}{l:List Sl}{n:Nat}(hn:l.length=n)(hown:w'.ownsRow w.heap.size 120 2 v n (scs l))(hb:Below w.heap.size w w'):zfA w l true (.returned (.tuple #[v,.bool true])) w':=by
 subst hn
 obtain⟨a,c,rfl,h1,h2⟩:=qQ hown (yU l)
 exact⟨⟨a,c,rfl,h1,h2⟩,hb⟩
theorem zfB(a:Option Addr)(n c:Nat)(room seq:Int)(h:room<=n)(w:World):
  Calls prog 76 #[.slice a n c,.int .i64 room,.int .i64 seq] w fun e w'=>zfA w [] false e w':=by
 have h1:decide (room<=(n:Int))=true:=by simpa using h
 go_enter func76,ntmps76
 go_wp2_with fail
 refine bodyPost_ret (v:=.tuple #[.slice none 0 0,.bool false]) ?_ rfl (zed rfl (Below.refl _ _))
 simp[results,results76,asAddr]
theorem zlE(a:Option Addr)(n c:Nat)(room seq:Int)(h:n<room)(l:List Sl)(m:Nat)(hm:Hid (First (above seq) l m))(hmn:m<n)(hn:n*16<=140737488355328)(w:World)(hL:Hid (LC w a n c 2 (scs l))):
  Calls prog 76 #[.slice a n c,.int .i64 room,.int .i64 seq] w fun e w'=>zfA w [] false e w':=by
 have h1:decide (room<=(n:Int))=false:=by simpa using h
 go_enter func76,ntmps76
 go_wp2_with fail
 refine(yX seq _).mono ?_
 rintro e W1 ⟨rfl,hc,hb⟩
 have HB:Hid (Below w.heap.size w W1):=hb
 have HA:Hid (Asks 143 w.heap.size (above seq) W1):=yW _ _ _ hc
 clear hc hb
 go_wp2_with fail
 refine(jO 143 w.heap.size (above seq) zg6 a n c (by omega) l m hm true (show _=_ by simpa using hmn) W1 (hL.out.below (Nat.le_refl _) HB.out) HA).mono ?_
 rintro e W2 ⟨rfl,hb⟩
 have HB2:Hid (Below w.heap.size w W2):=HB.out.trans (hb.mono HB.out.size)
 clear hb HB
 go_wp2_with fail
 refine bodyPost_ret (v:=.tuple #[.slice none 0 0,.bool false]) ?_ rfl (zed rfl HB2.out)
 simp[results,results76,asAddr]
theorem zg8(a:Option Addr)(n c:Nat)(room seq:Int)(h:n<room)(l:List Sl)(hm:Hid (First (above seq) l n))(hn:n*16+16<=140737488355328)(w:World)(hL:Hid (LC w a n c 2 (scs l))):
  Calls prog 76 #[.slice a n c,.int .i64 room,.int .i64 seq] w fun e w'=>zfA w (l++[(seq,false)]) true e w':=by
 have h1:decide (room<=(n:Int))=false:=by simpa using h
 have hlen:Hid (l.length=n):=by have:=hL.out.len;rw[ya]at this;show _=_;omega
 go_enter func76,ntmps76
 go_wp2_with fail
 refine(yX seq _).mono ?_
 rintro e W1 ⟨rfl,hc,hb⟩
 have HB:Hid (Below w.heap.size w W1):=hb
 have HA:Hid (Asks 143 w.heap.size (above seq) W1):=yW _ _ _ hc
 clear hc hb
 go_wp2_with fail
 refine(jO 143 w.heap.size (above seq) zg6 a n c (by omega) l n hm false (show _=_ by simp) W1 (hL.out.below (Nat.le_refl _) HB.out) HA).mono ?_
 rintro e W2 ⟨rfl,hb⟩
 have HB2:Hid (Below w.heap.size w W2):=HB.out.trans (hb.mono HB.out.size)
 clear hb HB
 go_wp2_with fail
 refine qH (Φ:=fun W=>Calls _ _ _ W _) ?_
 intro V hV1 hV2 hVb hVs
 have q0:V.cell? ⟨W2.heap.size+1,0,none⟩=some (.slice a n c):=(cell_of_row _ _ _ _ _ _ hV2).trans rfl
 have q1:V.cell? ⟨W2.heap.size+1,1,none⟩=some (.slice (some ⟨W2.heap.size,0,none⟩) 1 1):=(cell_of_row _ _ _ _ _ _ hV2).trans rfl
 have HV:Hid (Below w.heap.size w V):=HB2.out.trans (hVb.mono HB2.out.size)
 have L2:Hid (LC V (some ⟨W2.heap.size,0,none⟩) 1 1 2 (scs [(seq,false)])):=zar hV1 (yU [(seq,false)]) rfl
 have hq:W2.heap.size+1<V.heap.size:=(Array.getElem?_eq_some_iff.1 hV2).1
 refine(zdm (W2.heap.size+1) a (some ⟨W2.heap.size,0,none⟩) n c 1 1 (scs l) (scs [(seq,false)]) (by omega) V hq q0 q1 (hL.out.below (Nat.le_refl _) HV.out) L2).mono ?_
 rintro e W3 ⟨⟨v,rfl,hown⟩,hb⟩
 have HB3:Hid (Below w.heap.size w W3):=HV.out.trans (hb.mono HV.out.size)
 have HO:Hid (W3.ownsRow w.heap.size 120 2 v (n+1) (scs (l++[(seq,false)]))):=by rw[zdj];exact qP hown HV.out.size
 clear hb hown hV1 hV2 hVb hVs q0 q1 HV L2 hq HB2
 go_wp2_with fail
 refine bodyPost_ret (v:=.tuple #[v,.bool true]) ?_ rfl (zcc (by simp[hlen.out]) HO.out HB3.out)
 simp[results,results76,asAddr]
theorem zg9(a:Option Addr)(n c:Nat)(seq:Int)(l:List Sl)(m:Nat)(hm:Hid (First (waits seq) l m))(hmn:m<n)(hn:n*16<=140737488355328)(w:World)(hL:Hid (LC w a n c 2 (scs l))):
  Calls prog 100 #[.slice a n c,.int .i64 seq] w fun e w'=>zfA w (l.set m (seq,true)) true e w':=by
 have hmf:∀(fn:Fn) (first cap:Array Value) (w:World),(Instr.makeFunc fn first cap).run prog w=.ok (.func fn first cap) w:=fun _ _ _ _=>rfl
 have hlen:Hid (l.length=n):=by have:=hL.out.len;rw[ya]at this;show _=_;omega
 obtain⟨b0,o0,rfl,hb0,hc0⟩:=hL.out.sure (by omega)
 clear hc0 hb0
 have hat:Hid ((l[m]?).map (·.1)=some seq):=by
  obtain⟨s,d,hsd⟩:=zg5 (l:=l) (k:=m) (by rw[hlen.out];exact hmn)
  have:=hm.out.yes _ hsd
  simp[waits]at this
  show _=_
  rw[hsd]
  simp[this.1]
 go_enter func100,ntmps100
 go_wp2_with fail
 refine zA (Φ:=fun W=>Calls _ _ _ W _) ?_
 intro V hV hVb
 have HV:Hid (Below w.heap.size w V):=hVb
 have HA:Hid (Asks 131 w.heap.size (waits seq) V):=zfy _ _ _ ((cell_of_row _ _ _ _ _ _ hV).trans rfl)
 clear hV hVb
 refine(xK 131 w.heap.size (waits seq) zjn _ n c (by omega) l m hm m (show _=_ by rw[if_pos hmn]) V (hL.out.below (Nat.le_refl _) HV.out) HA).mono ?_
 rintro e W1 ⟨rfl,hb⟩
 have HB:Hid (Below w.heap.size w W1):=HV.out.trans (hb.mono HV.out.size)
 clear hb HV HA
 go_wp2_with fail
 refine(zdl b0 o0 n c hn (scs l) W1 (hL.out.below (Nat.le_refl _) HB.out)).mono ?_
 rintro e W2 ⟨⟨v,rfl,hown⟩,hb⟩
 obtain⟨g,cap,rfl⟩:=zec hown (by omega)
 have HO:Hid (W2.ownsRow w.heap.size 120 2 (.slice (some ⟨g,0,none⟩) n cap) n (scs l)):=qP hown HB.out.size
 have HB2:Hid (Below w.heap.size w W2):=HB.out.trans (hb.mono HB.out.size)
 have hfr:W2.frozen? ⟨g,m*2+1,none⟩=false:=HO.out.frozenAt _
 have hcl:W2.cell? ⟨g,m*2+1,none⟩=(scs l)[m*2+1]?:=HO.out.cellAt _ (by omega)
 obtain⟨s,d,hsd⟩:=zg5 (l:=l) (k:=m) (by rw[hlen.out];exact hmn)
 rw[ko _ _ _ hsd]at hcl
 have hg:=(HO.out.lt g rfl).1
 clear hb hown HB hsd
 go_wp2_with fail
 have hst:=HO.out.stored (m*2+1) (.bool true)
 rw[zg4 _ _ _ hat.out]at hst
 refine bodyPost_ret (v:=.tuple #[.slice (some ⟨g,0,none⟩) n cap,.bool true]) ?_ rfl (zcc (by simp[hlen.out]) hst.1 (HB2.out.setCell hg _))
 simp[results,results100,asAddr]
theorem below_setRow{B:Nat}{a w:World}(h:Below B a w){g:Nat}(hg:B<=g)(cs:Array Value):Below B a (w.setRow g cs):=
 ⟨h.os,h.tape,h.output,by simpa using h.size,fun k hk=>(setRow_other _ _ _ _ (by omega)).trans (h.block k hk)⟩
theorem zee(w:World)(a:Option Addr)(size:Nat):LC w a 0 0 size []:=⟨by simp,Nat.le_refl _,by unfold maxLen;omega,fun _=>⟨rfl,rfl⟩,fun u hu=>by simp at hu,fun x hx h0=>absurd h0 (by omega)⟩
theorem zn1{w:World}{a:Option Addr}{m c size size':Nat}{cs:List Value}{f:Addr->Addr}(h:LC w a m c size cs):LC w (Option.map f a) 0 (c-m) size' []:=by
 refine⟨by simp,Nat.zero_le _,by have:=h.top;omega,fun e=>?_,fun u hu=>by simp at hu,fun x hx h0=>absurd h0 (by omega)⟩
 cases a with
 |none=>have:=h.nil rfl;omega
 |some x=>cases e
def jG(l:List Sl)(m:Nat):List Int:=(l.take m).map (·.1)
theorem xj{l:List Sl}{m n:Nat}(h:l.length=n)(hm:m<=n):(jG l m).length=m:=by
 unfold jG
 rw[List.length_map,List.length_take,h]
 omega
theorem zfC{l:List Sl}{k:Nat}{s:Int}{d:Bool}(h:l[k]?=some (s,d)):jG l (k+1)=jG l k++[s]:=by
 unfold jG
 rw[take_at h,List.map_append]
 rfl
def zcd(w:World)(l:List Sl)(k:List Int)(e:Ending)(w':World):Prop:=
 (∃a c b d,e=.returned (.tuple #[.slice a l.length c,.slice b k.length d])/\LC w' a l.length c 2 (scs l)/\FarC w.heap.size a/\LC w' b k.length d 1 (ics k)/\FarC w.heap.size b)/\Below w.heap.size w w'
theorem ji{w w':World}{v u:Value}{l:List Sl}{k:List Int}{n m:Nat}(hn:l.length=n)(hm:k.length=m)(hown:w'.ownsRow w.heap.size 120 2 v n (scs l))(hk:w'.ownsRow w.heap.size 3 1 u m (ics k))(hb:Below w.heap.size w w'):zcd w l k (.returned (.tuple #[v,u])) w':=by
 subst hn hm
 obtain⟨a,c,rfl,h1,h2⟩:=qQ hown (yU l)
 obtain⟨b,d,rfl,h3,h4⟩:=qQ hk (jF k)
 exact⟨⟨a,c,b,d,rfl,h1,h2,h3,h4⟩,hb⟩
theorem zjp(a:Option Addr)(n c:Nat)(most:Int)(l:List Sl)(m:Nat)(hm:Hid (Goes l most m))(hn:n*16<=140737488355328)(w:World)(hL:Hid (LC w a n c 2 (scs l))):
  Calls prog 37 #[.slice a n c,.int .i64 most] w fun e w'=>zcd w (l.drop m) (jG l m) e w':=by
 obtain⟨i3,hi3,hz0,hz1,hz2⟩:=info_parts zkC
 have hlen:Hid (l.length=n):=by have:=hL.out.len;rw[ya]at this;show _=_;omega
 have hmn:m<=n:=by have:=hm.out.le;have:=hlen.out;omega
 go_enter func37,ntmps37
 go_wp2_with fail
 go_loopw [6,11] (fun v i wr=>∃k:Nat,k<=m/\i=.int .i64 k/\Hid (wr.ownsRow w.heap.size 3 1 v k (ics (jG l k)))/\Hid (Below w.heap.size w wr))
  (fun _ i _=>n-(intOf i).toNat)
 case atStart=>exact⟨0,by omega,rfl,World.ownsRow_nil _ _ _ _,Below.refl _ _⟩
 case round=>
  obtain⟨k,hk,rfl,HO,HB⟩:=hrel
  obtain⟨pk,ck,rfl⟩:=yY HO.out
  by_cases hlt:k<n
  ·obtain⟨s,d,hsd⟩:=zg5 (l:=l) (k:=k) (by rw[hlen.out];exact hlt)
   obtain⟨bb,o,rfl,hb,hc⟩:=hL.out.sure (by omega)
   have c0:wr.cell? ⟨bb,o+k*2,none⟩=some (.int .i64 s):=(HB.out.cell (p:=⟨bb,o+k*2,none⟩) hb).trans (hc _ _ (za3 _ _ _ hsd))
   have c1:wr.cell? ⟨bb,o+k*2+1,none⟩=some (.bool d):=(HB.out.cell (p:=⟨bb,o+k*2+1,none⟩) hb).trans (by rw[Nat.add_assoc];exact hc _ _ (ko _ _ _ hsd))
   have hkc:k<c:=by have:=hL.out.le;omega
   clear hc
   go_upto_region 5 with fail
   refine zA (Φ:=fun W=>Code.wp _ _ _ _ W) ?_
   intro U hU hUb
   have HBU:Hid (Below w.heap.size w U):=HB.out.trans (hUb.mono HB.out.size)
   have HOU:Hid (U.ownsRow w.heap.size 3 1 (.slice pk k ck) k (ics (jG l k))):=zy HO.out (Nat.le_refl _) hUb
   have e0:U.cell? ⟨wr.heap.size,0,none⟩=some (.int .i64 s):=(cell_of_row _ _ _ _ _ _ hU).trans rfl
   have e1:U.cell? ⟨wr.heap.size,1,none⟩=some (.bool d):=(cell_of_row _ _ _ _ _ _ hU).trans rfl
   clear hU hUb HB HO c0 c1
   generalize wr.heap.size=q at*
   by_cases hkm:k=m
   ·subst hkm
    have hst:=hm.out.stop _ hsd
    by_cases hmo:(k:Int)<most
    ·have hd:d=false:=by
      cases d with
      |false=>rfl
      |true=>exact absurd ⟨hmo,rfl⟩ hst
     subst hd
     have hmo2:decide (most<=(k:Int))=false:=by simpa using hmo
     clear hst hsd
     go_wp2_with fail
     refine zA (Φ:=fun W=>Calls _ _ _ W _) ?_
     intro V hV hVb
     have HV:Hid (Below w.heap.size w V):=HBU.out.trans (hVb.mono HBU.out.size)
     have q0:V.cell? ⟨U.heap.size,0,none⟩=some (.slice (some ⟨bb,o+k*2,none⟩) (n-k) (c-k)):=(cell_of_row _ _ _ _ _ _ hV).trans rfl
     have hq:U.heap.size<V.heap.size:=(Array.getElem?_eq_some_iff.1 hV).1
     have HOV:Hid (V.ownsRow w.heap.size 3 1 (.slice pk k ck) k (ics (jG l k))):=zy HOU.out (Nat.le_refl _) hVb
     have L2:Hid (LC V (some ⟨bb,o+k*2,none⟩) (n-k) (c-k) 2 (scs (l.drop k))):=by rw[za4];exact LC.drop (hL.out.below (Nat.le_refl _) HV.out) k (by omega) (fun _=>rfl) rfl
     refine(jV U.heap.size (some ⟨bb,o+k*2,none⟩) (n-k) (c-k) (scs (l.drop k)) (by omega) V hq q0 L2).mono ?_
     rintro e W3 ⟨⟨v,rfl,hown⟩,hb3⟩
     have HB3:Hid (Below w.heap.size w W3):=HV.out.trans (hb3.mono HV.out.size)
     have HO3:Hid (W3.ownsRow w.heap.size 120 2 v ((n-k)) (scs (l.drop k))):=qP hown HV.out.size
     have HK3:Hid (W3.ownsRow w.heap.size 3 1 (.slice pk k ck) k (ics (jG l k))):=zy HOV.out (Nat.le_refl _) hb3
     clear hV hVb HV q0 hq HOV L2 hown hb3
     go_wp2_with fail
     refine bodyPost_ret (v:=.tuple #[v,.slice pk k ck]) ?_ rfl (ji (by rw[List.length_drop,hlen.out];try omega) (xj hlen.out (by omega)) HO3.out HK3.out HB3.out)
     simp[results,results37,asAddr]
    ·have hmo2:decide (most<=(k:Int))=true:=by simpa using hmo
     clear hst hsd
     go_wp2_with fail
     refine zA (Φ:=fun W=>Calls _ _ _ W _) ?_
     intro V hV hVb
     have HV:Hid (Below w.heap.size w V):=HBU.out.trans (hVb.mono HBU.out.size)
     have q0:V.cell? ⟨U.heap.size,0,none⟩=some (.slice (some ⟨bb,o+k*2,none⟩) (n-k) (c-k)):=(cell_of_row _ _ _ _ _ _ hV).trans rfl
     have hq:U.heap.size<V.heap.size:=(Array.getElem?_eq_some_iff.1 hV).1
     have HOV:Hid (V.ownsRow w.heap.size 3 1 (.slice pk k ck) k (ics (jG l k))):=zy HOU.out (Nat.le_refl _) hVb
     have L2:Hid (LC V (some ⟨bb,o+k*2,none⟩) (n-k) (c-k) 2 (scs (l.drop k))):=by rw[za4];exact LC.drop (hL.out.below (Nat.le_refl _) HV.out) k (by omega) (fun _=>rfl) rfl
     refine(jV U.heap.size (some ⟨bb,o+k*2,none⟩) (n-k) (c-k) (scs (l.drop k)) (by omega) V hq q0 L2).mono ?_
     rintro e W3 ⟨⟨v,rfl,hown⟩,hb3⟩
     have HB3:Hid (Below w.heap.size w W3):=HV.out.trans (hb3.mono HV.out.size)
     have HO3:Hid (W3.ownsRow w.heap.size 120 2 v ((n-k)) (scs (l.drop k))):=qP hown HV.out.size
     have HK3:Hid (W3.ownsRow w.heap.size 3 1 (.slice pk k ck) k (ics (jG l k))):=zy HOV.out (Nat.le_refl _) hb3
     clear hV hVb HV q0 hq HOV L2 hown hb3
     go_wp2_with fail
     refine bodyPost_ret (v:=.tuple #[v,.slice pk k ck]) ?_ rfl (ji (by rw[List.length_drop,hlen.out];try omega) (xj hlen.out (by omega)) HO3.out HK3.out HB3.out)
     simp[results,results37,asAddr]
   ·have hgo:=hm.out.go k _ (by omega) hsd
    obtain⟨hmo,hd⟩:=hgo
    have hd':d=true:=hd
    subst hd'
    have hmo2:decide (most<=(k:Int))=false:=by simpa using hmo
    have HN:Hid (jG l (k+1)=jG l k++[s]):=zfC hsd
    clear hsd hd
    go_wp2_with(at_builtin;refine zD _ rfl _ _ 29 rfl w.heap.size 3 i3 _ 1 8 underlying29 hi3 hz0 hz1 hz2 rfl (by decide) _ k _ rfl (zy HOU.out (Nat.le_refl _) ((Below.refl _ _).alloc (Nat.le_refl _) _)) _ 1 1 (ics [s]) rfl (zar (heap_alloc_new _ _) (jF [s]) rfl) (by unfold maxLen;omega) (by omega) (by have:=HBU.out.size;simp;omega) ?_;intro v1 w1 hown1 hgrow1)
    have HO1:Hid (w1.ownsRow w.heap.size 3 1 v1 (k+1) (ics (jG l (k+1)))):=by rw[HN.out,za5];exact hown1
    have HB1:Hid (Below w.heap.size w w1):=(HBU.out.alloc HBU.out.size _).grown hgrow1 (by have:=HBU.out.size;simp;omega) (fun j hj=>(HOU.out.lt j hj).1)
    clear hown1 hgrow1
    go_wp2_with fail
    exact⟨⟨k+1,by omega,by go_num,HO1,HB1⟩,by simp[intOf];omega⟩
  ·have:k=n:=by omega
   subst this
   have hmk:m=k:=by omega
   subst hmk
   go_wp2_with fail
   case inl=>
    have hcm:m=c:=by first|assumption|omega
    subst hcm
    refine zA (Φ:=fun W=>Calls _ _ _ W _) ?_
    intro V hV hVb
    have HV:Hid (Below w.heap.size w V):=HB.out.trans (hVb.mono HB.out.size)
    have q0:V.cell? ⟨wr.heap.size,0,none⟩=some (.slice a 0 0):=(cell_of_row _ _ _ _ _ _ hV).trans rfl
    have hq:wr.heap.size<V.heap.size:=(Array.getElem?_eq_some_iff.1 hV).1
    have HOV:Hid (V.ownsRow w.heap.size 3 1 (.slice pk m ck) m (ics (jG l m))):=zy HO.out (Nat.le_refl _) hVb
    have L2:Hid (LC V a 0 0 2 (scs (l.drop m))):=by rw[List.drop_of_length_le (by rw[hlen.out];exact Nat.le_refl _)];exact zee _ _ _
    refine(jV wr.heap.size a 0 0 (scs (l.drop m)) (by omega) V hq q0 L2).mono ?_
    rintro e W3 ⟨⟨v,rfl,hown⟩,hb3⟩
    have HB3:Hid (Below w.heap.size w W3):=HV.out.trans (hb3.mono HV.out.size)
    have HO3:Hid (W3.ownsRow w.heap.size 120 2 v (0) (scs (l.drop m))):=qP hown HV.out.size
    have HK3:Hid (W3.ownsRow w.heap.size 3 1 (.slice pk m ck) m (ics (jG l m))):=zy HOV.out (Nat.le_refl _) hb3
    clear hV hVb HV q0 hq HOV L2 hown hb3
    go_wp2_with fail
    refine bodyPost_ret (v:=.tuple #[v,.slice pk m ck]) ?_ rfl (ji (by rw[List.length_drop,hlen.out];try omega) (xj hlen.out (by omega)) HO3.out HK3.out HB3.out)
    simp[results,results37,asAddr]
   case inr=>
    refine zA (Φ:=fun W=>Calls _ _ _ W _) ?_
    intro V hV hVb
    have HV:Hid (Below w.heap.size w V):=HB.out.trans (hVb.mono HB.out.size)
    have q0:V.cell? ⟨wr.heap.size,0,none⟩=some (.slice (Option.map (fun x=>x.add (m*2)) a) 0 (c-m)):=(cell_of_row _ _ _ _ _ _ hV).trans rfl
    have hq:wr.heap.size<V.heap.size:=(Array.getElem?_eq_some_iff.1 hV).1
    have HOV:Hid (V.ownsRow w.heap.size 3 1 (.slice pk m ck) m (ics (jG l m))):=zy HO.out (Nat.le_refl _) hVb
    have L2:Hid (LC V (Option.map (fun x=>x.add (m*2)) a) 0 (c-m) 2 (scs (l.drop m))):=by rw[List.drop_of_length_le (by rw[hlen.out];exact Nat.le_refl _)];exact zn1 (hL.out.below (Nat.le_refl _) HV.out)
    refine(jV wr.heap.size (Option.map (fun x=>x.add (m*2)) a) 0 (c-m) (scs (l.drop m)) (by omega) V hq q0 L2).mono ?_
    rintro e W3 ⟨⟨v,rfl,hown⟩,hb3⟩
    have HB3:Hid (Below w.heap.size w W3):=HV.out.trans (hb3.mono HV.out.size)
    have HO3:Hid (W3.ownsRow w.heap.size 120 2 v (0) (scs (l.drop m))):=qP hown HV.out.size
    have HK3:Hid (W3.ownsRow w.heap.size 3 1 (.slice pk m ck) m (ics (jG l m))):=zy HOV.out (Nat.le_refl _) hb3
    clear hV hVb HV q0 hq HOV L2 hown hb3
    go_wp2_with fail
    refine bodyPost_ret (v:=.tuple #[v,.slice pk m ck]) ?_ rfl (ji (by rw[List.length_drop,hlen.out];try omega) (xj hlen.out (by omega)) HO3.out HK3.out HB3.out)
    simp[results,results37,asAddr]
end Go.Proofs.YtpiohehijkpghabGreatDoor.Wi
