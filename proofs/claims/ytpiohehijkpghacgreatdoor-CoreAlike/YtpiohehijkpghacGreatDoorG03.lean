/- Numbers that are all different, counted. Nothing of the program is named here. -/
import Derived.Lib.SliceRun
import Derived.Lib.OwnBridge
import Derived.WalkKit
import Derived.Test.YtpiohehijkpghacGreatDoorG02
set_option maxHeartbeats 1000000
namespace Go.Proofs.YtpiohehijkpghacGreatDoor
open Go.RowKit
open Hy
set_option linter.unusedVariables false
structure Fr (w:World) (B h n:Nat) (f:Nat→Int):Prop where
 base:B≤h
 lt:h<w.heap.size
 cell:∀i,i<n→w.cell? ⟨h,i,none⟩=some (.int .u8 (f i))
 free:∀i,i<n→w.frozen? ⟨h,i,none⟩=false
theorem Fr.congr {w:World} {B h n:Nat} {f f':Nat→Int} (H:Fr w B h n f) (e:∀i,i<n→f i=f' i):Fr w B h n f':=
 ⟨H.base,H.lt,fun i hi=>by rw[←e i hi];exact H.cell i hi,H.free⟩
theorem Fr.set {w:World} {B h n:Nat} {f:Nat→Int} (H:Fr w B h n f) (k:Nat) (hk:k<n) (v:Int):Fr (w.setCell ⟨h,k,none⟩ (.int .u8 v)) B h n (fun i=>if i=k then v else f i):=by
 refine⟨H.base,by simpa using H.lt,fun i hi=>?_,fun i hi=>by rw[World.frozen?_setCell];exact H.free i hi⟩
 by_cases e:i=k
 ·subst e
  rw[World.cell?_setCell_same _ _ _ (H.cell i hi),if_pos rfl]
 ·rw[World.cell?_setCell_other _ _ _ _ (by intro h';cases h';omega),if_neg e]
  exact H.cell i hi
theorem info5:(Tryz.prog.info? 5).map (fun i=>(i.zero,i.size,i.bytes))=some (some (.int .u8 0),1,1):=by kernel_rfl
theorem fr_of_own {w:World} {B n:Nat} {v:Value} {f:Nat→Int} (hn:0<n) (hown:w.ownsRow B 5 1 v n ((List.range n).map fun i=>Value.int .u8 (f i))):
  ∃h cap,v=.slice (some ⟨h,0,none⟩) n cap∧n≤cap∧cap≤maxLen∧Fr w B h n f:=by
 have hown0:=hown
 obtain⟨_,hcase⟩:=hown
 rcases hcase with⟨_,h0⟩|⟨g,cap',cur,rfl,hg,hh,hn',hcap,hsz,htake⟩
 ·omega
 ·refine⟨g,cap',rfl,hn',hcap,hg,?_,fun i hi=>?_,fun i hi=>by simp[World.frozen?,hh]⟩
  ·exact(Array.getElem?_eq_some_iff.1 hh).1
  ·rw[hown0.cellAt i (by omega)]
   simp[hi]
theorem Clone_any (g o n c:Nat) (f:Nat→Int) (h0:0<n) (hn:n≤140737488355328) (w:World) (hc:Lies w g o n f):
  Calls Tryz.prog 35 #[.slice (some ⟨g,o,none⟩) n c] w fun e w'=>(∃h cap,e=.returned (.slice (some ⟨h,0,none⟩) n cap)∧n≤cap∧cap≤maxLen∧Fr w' w.heap.size h n f)∧Below w.heap.size w w':=by
 obtain⟨i0,hi,hz0,hz1,hz2⟩:=info_parts info5
 have q22:∀(w:World) (a:Option Addr) (n c n' c':Nat),(binOp .eql 28 (.slice a n c) (.slice none n' c')).run Tryz.prog w=.ok (.bool a.isNone) w:=fun w a n c n' c'=>Lib.run_eql_slice_nil w _ _ a n c n' c' Tryz.underlying28
 have A:Hid (Lies w g o n f):=hc
 clear hc
 go_enter Tryz.func35,Tryz.ntmps35
 go_wp2_with(at_builtin;refine wpList_append_own _ rfl _ _ 28 rfl w.heap.size 5 i0 (.int .u8 0) 1 1 Tryz.underlying28 hi hz0 hz1 hz2 rfl (by decide) _ _ _ rfl (World.ownsRow_made w #[] 0 (Nat.le_refl _) (Nat.zero_le _) rfl) ⟨g,o,none⟩ n c ((List.range n).map fun i=>Value.int .u8 (f i)) rfl ?qc1 ?qc2 ?qc3 ?qc4 ?qc5 ?qc6 ?_)
 case qc1=>simp
 case qc2=>
  intro j u hj
  have hjn:j<n:=by
   have:=(List.getElem?_eq_some_iff.1 hj).1
   simpa using this
  have hb:=World.block_lt_of_cell? _ _ (A.out j hjn)
  rw[((Below.refl w.heap.size w).alloc (Nat.le_refl _) _).cell (by rw[Go.WideShapes.add_plain];exact hb)]
  simp[hjn]at hj
  rw[←hj,Go.WideShapes.add_plain]
  exact A.out j hjn
 case qc3=>intro u hu;obtain⟨x,_,rfl⟩:=List.mem_map.1 hu;rfl
 case qc4=>unfold maxLen;omega
 case qc5=>omega
 case qc6=>simp
 intro v' w1 hown hgrow hnil
 go_wp2
 go_ret
 have hown':w1.ownsRow w.heap.size 5 1 v' n ((List.range n).map fun i=>Value.int .u8 (f i)):=by simpa using hown
 obtain⟨h,cap,rfl,a1,a2,a3⟩:=fr_of_own h0 hown'
 exact⟨⟨h,cap,rfl,a1,a2,a3⟩,((Below.refl _ w).alloc (Nat.le_refl _) _).grown hgrow (by simp) (by intro k hk;simp[Value.ownBlock]at hk;omega)⟩
def sto (f:Nat→Int) (a:Nat) (W:Int) (j i:Nat):Int:=if a≤i∧i<a+j then W/p256 (i-a)%256 else f i
theorem sto_succ (f:Nat→Int) (a:Nat) (W:Int) (j i:Nat):(if i=a+j then W/p256 j%256 else sto f a W j i)=sto f a W (j+1) i:=by
 unfold sto
 by_cases e:i=a+j
 ·subst e
  rw[if_pos rfl,if_pos ⟨by omega,by omega⟩,show a+j-a=j by omega]
 ·rw[if_neg e]
  by_cases h:a≤i∧i<a+j
  ·rw[if_pos h,if_pos ⟨h.1,by omega⟩]
  ·rw[if_neg h,if_neg (by omega)]
theorem Fr.step {w:World} {B h n:Nat} {f:Nat→Int} {a j:Nat} {W:Int} (H:Fr w B h n (sto f a W j)) (hk:a+j<n) (v:Int) (hv:v=W/p256 j%256):Fr (w.setCell ⟨h,a+j,none⟩ (.int .u8 v)) B h n (sto f a W (j+1)):=by
 subst hv
 exact(H.set (a+j) hk _).congr fun i _=>sto_succ f a W j i
theorem Stores_no (p:Option Addr) (n c:Nat) (op a:Int) (hn:n≤140737488355328) (a0:0≤a) (a1:a≤4294967295) (h:¬(0<stn op∧a%stn op=0∧a+stn op≤n)) (w:World):
  Calls Tryz.prog 111 #[.slice p n c,.int .i64 op,.int .u32 a] w fun e w'=>e=.returned (.int .u32 0)∧w'=w:=by
 have hd:decide (0<stn op∧a%stn op=0∧a+stn op≤n)=false:=decide_eq_false h
 have hm:=stn_cases op
 obtain⟨m,hM⟩:∃m,m=stn op:=⟨_,rfl⟩
 have C1:=stored_any op
 rw[←hM]at hd hm C1
 have C2:=fun w=>stands_any p n c a m hn a0 a1 hm w
 rw[hd]at C2
 clear hM h hd hm
 go_enter Tryz.func111,Tryz.ntmps111
 go_wp2_with fail
 refine(C1 _).mono ?_
 rintro e w' ⟨rfl,rfl⟩
 go_wp2_with fail
 refine(C2 _).mono ?_
 rintro e w' ⟨rfl,rfl⟩
 go_wp2_with fail
 go_ret
 exact⟨rfl,rfl⟩
theorem Stores_yes (p:Option Addr) (n c:Nat) (op a:Int) (hn:n≤140737488355328) (a0:0≤a) (a1:a≤4294967295) (h:0<stn op∧a%stn op=0∧a+stn op≤n) (w:World):
  Calls Tryz.prog 111 #[.slice p n c,.int .i64 op,.int .u32 a] w fun e w'=>e=.returned (.int .u32 (stn op))∧w'=w:=by
 have hd:decide (0<stn op∧a%stn op=0∧a+stn op≤n)=true:=decide_eq_true h
 have hm:=stn_cases op
 obtain⟨m,hM⟩:∃m,m=stn op:=⟨_,rfl⟩
 have C1:=stored_any op
 rw[←hM]at hd hm C1⊢
 have C2:=fun w=>stands_any p n c a m hn a0 a1 hm w
 rw[hd]at C2
 clear hM h hd hm
 go_enter Tryz.func111,Tryz.ntmps111
 go_wp2_with fail
 refine(C1 _).mono ?_
 rintro e w' ⟨rfl,rfl⟩
 go_wp2_with fail
 refine(C2 _).mono ?_
 rintro e w' ⟨rfl,rfl⟩
 go_wp2_with fail
 go_ret
 exact⟨rfl,rfl⟩
end Go.Proofs.YtpiohehijkpghacGreatDoor
namespace Go.Proofs.YtpiohehijkpghacGreatDoor.Od
open Go.Proofs.YtpiohehijkpghacGreatDoor.Wi
open Go.RowKit
open Hy
set_option linter.unusedVariables false
structure Ac where
 seq:Int
 st:Bool
 kn:Bool
 pl:Int
 many:Int
 data:Int
 done:Bool
structure Ac.Ok (a:Ac):Prop where
 p0:0≤a.pl
 p1:a.pl≤4294967295
 d0:0≤a.data
 d1:a.data≤4294967295
 m0:-9223372036854775808≤a.many
 m1:a.many≤9223372036854775807
def cel (p:Ac):List Value:=[.int .i64 p.seq,.bool p.st,.bool p.kn,.int .u32 p.pl,.int .i64 p.many,.int .u32 p.data,.bool p.done]
abbrev acv (p:Ac):Value:=.agg #[.int .i64 p.seq,.bool p.st,.bool p.kn,.int .u32 p.pl,.int .i64 p.many,.int .u32 p.data,.bool p.done]
def acs:List Ac→List Value
 |[]=>[]
 |p::l=>cel p++acs l
theorem acs_len:∀l:List Ac,(acs l).length=l.length*7
 |[]=>rfl
 |p::l=>by have:=acs_len l;simp[acs,cel,this];omega
theorem acs_at:∀(l:List Ac) (k j:Nat) (p:Ac) (u:Value),l[k]?=some p→(cel p)[j]?=some u→(acs l)[k*7+j]?=some u
 |[],k,j,p,u,h,hu=>by simp at h
 |q::l,0,j,p,u,h,hu=>by
  simp at h;subst h
  have hj:j<(cel q).length:=(List.getElem?_eq_some_iff.1 hu).1
  rw[acs,Nat.zero_mul,Nat.zero_add,List.getElem?_append_left hj]
  exact hu
 |q::l,k+1,j,p,u,h,hu=>by
  have:=acs_at l k j p u (by simpa using h) hu
  rw[acs,List.getElem?_append_right (by simp[cel];omega)]
  rw[show(k+1)*7+j-(cel q).length=k*7+j by simp[cel];omega]
  exact this
theorem cel_one (p:Ac):∀u∈cel p,u.oneCell'=true:=by
 intro u hu
 simp only[cel,List.mem_cons,List.not_mem_nil,or_false]at hu
 rcases hu with rfl|rfl|rfl|rfl|rfl|rfl|rfl<;>rfl
def wd (a:Ac):Int:=if a.many<0 then 0 else if 4<a.many then 4 else a.many
theorem wd_rng (a:Ac):0≤wd a∧wd a≤4:=by unfold wd;split<;>(try split)<;>omega
def hs (a:Ac) (x:Int):Bool:=decide (a.pl≤x∧x<a.pl+wd a)
def ahd (seq:Int) (a:Ac):Bool:=a.st&&decide (a.seq<seq)
def unk (seq:Int) (a:Ac):Bool:=ahd seq a&&!a.kn
def sto1 (seq:Int) (a:Ac):Bool:=a.st&&a.kn&&decide (a.seq=seq)
def ovr (seq:Int) (a:Ac):Bool:=!a.st&&a.done&&a.kn&&decide (seq<a.seq)
def gv (seq x:Int) (a:Ac):Bool:=ahd seq a&&a.kn&&hs a x
def mt (s a:Ac):Bool:=decide (s.pl<a.pl+wd a∧a.pl<s.pl+wd s∧0<wd s∧0<wd a)
def aft (l:List Ac) (o:Option Nat) (a:Ac):Bool:=match o with
 |none=>true
 |some j=>match l[j]? with
  |none=>true
  |some q=>decide (q.seq≤a.seq)
def bst (l:List Ac) (seq x:Int):Nat→Option Nat
 |0=>none
 |k+1=>match l[k]? with
  |none=>bst l seq x k
  |some a=>if(gv seq x a&&aft l (bst l seq x k) a)=true then some k else bst l seq x k
theorem bst_lt (l:List Ac) (seq x:Int):∀k j,bst l seq x k=some j→j<k∧∃q,l[j]?=some q∧gv seq x q=true
 |0,j,h=>by simp[bst]at h
 |k+1,j,h=>by
  unfold bst at h
  split at h
  ·obtain⟨h1,h2⟩:=bst_lt l seq x k j h
   exact⟨by omega,h2⟩
  ·rename_i a ha
   split at h
   ·rename_i hc
    cases h
    simp at hc
    exact⟨by omega,a,ha,hc.1⟩
   ·obtain⟨h1,h2⟩:=bst_lt l seq x k j h
    exact⟨by omega,h2⟩
theorem bst_no {l:List Ac} {seq x:Int} {k:Nat} {a:Ac} (ha:l[k]?=some a) (h:gv seq x a=false):bst l seq x (k+1)=bst l seq x k:=by
 rw[bst,ha]
 simp[h]
theorem bst_first {l:List Ac} {seq x:Int} {k:Nat} {a:Ac} (ha:l[k]?=some a) (h:gv seq x a=true) (hn:bst l seq x k=none):bst l seq x (k+1)=some k:=by
 rw[bst,ha]
 simp[h,hn,aft]
theorem bst_more {l:List Ac} {seq x:Int} {k j:Nat} {a q:Ac} (ha:l[k]?=some a) (h:gv seq x a=true) (hj:bst l seq x k=some j) (hq:l[j]?=some q) (hle:q.seq≤a.seq):bst l seq x (k+1)=some k:=by
 rw[bst,ha]
 simp[h,hj,aft,hq,hle]
theorem bst_less {l:List Ac} {seq x:Int} {k j:Nat} {a q:Ac} (ha:l[k]?=some a) (hj:bst l seq x k=some j) (hq:l[j]?=some q) (hle:a.seq<q.seq):bst l seq x (k+1)=bst l seq x k:=by
 rw[bst,ha]
 have:¬q.seq≤a.seq:=by omega
 simp[hj,aft,hq,this]
def byt (a:Ac) (x:Int):Int:=a.data/two (8*(x-a.pl).toNat)%256
theorem byt_rng (a:Ac) (x:Int):0≤byt a x∧byt a x≤255:=by unfold byt;omega
def seen (l:List Ac) (seq x m:Int) (k:Nat):Int:=match bst l seq x k with
 |none=>m
 |some j=>match l[j]? with
  |none=>m
  |some q=>byt q x
theorem seen_rng (l:List Ac) (seq x m:Int) (k:Nat) (h:0≤m∧m≤255):0≤seen l seq x m k∧seen l seq x m k≤255:=by
 unfold seen
 split
 ·exact h
 ·split
  ·exact h
  ·exact byt_rng _ _
theorem seen_none {l:List Ac} {seq x m:Int} {k:Nat} (h:bst l seq x k=none):seen l seq x m k=m:=by unfold seen;rw[h]
theorem seen_some {l:List Ac} {seq x m:Int} {k j:Nat} {q:Ac} (h:bst l seq x k=some j) (hq:l[j]?=some q):seen l seq x m k=byt q x:=by unfold seen;rw[h];simp only[hq]
structure FirstA (p:Ac→Bool) (l:List Ac) (m:Nat):Prop where
 le:m≤l.length
 no:∀j q,j<m→l[j]?=some q→p q=false
 yes:∀q,l[m]?=some q→p q=true
theorem firstA_ex (p:Ac→Bool):∀l,∃m,FirstA p l m
 |[]=>⟨0,Nat.le_refl _,fun j q h=>absurd h (by omega),fun q h=>by simp at h⟩
 |q::l=>by
  cases hq:p q with
  |true=>exact⟨0,Nat.zero_le _,fun j q h=>absurd h (by omega),fun q' h=>by simp at h;subst h;exact hq⟩
  |false=>
   obtain⟨m,h⟩:=firstA_ex p l
   refine⟨m+1,by have:=h.le;simp;omega,fun j q' hj hq'=>?_,fun q' h'=>h.yes q' (by simpa using h')⟩
   cases j with
   |zero=>simp at hq';subst hq';exact hq
   |succ j=>exact h.no j q' (by omega) (by simpa using hq')
theorem atA_ex {l:List Ac} {k:Nat} (h:k<l.length):∃p,l[k]?=some p:=⟨_,List.getElem?_eq_getElem h⟩
def bef (o:Option Int) (a:Ac):Bool:=match o with
 |none=>true
 |some x=>decide (a.seq<x)
def lst (l:List Ac) (s:Ac):Nat→Option Int
 |0=>none
 |k+1=>match l[k]? with
  |none=>lst l s k
  |some a=>if(ovr s.seq a&&mt s a&&bef (lst l s k) a)=true then some a.seq else lst l s k
theorem lst_no {l:List Ac} {s a:Ac} {k:Nat} (ha:l[k]?=some a) (h:(ovr s.seq a&&mt s a)=false):lst l s (k+1)=lst l s k:=by
 rw[lst,ha]
 simp only[h,Bool.false_and]
 rfl
theorem lst_first {l:List Ac} {s a:Ac} {k:Nat} (ha:l[k]?=some a) (h:(ovr s.seq a&&mt s a)=true) (hn:lst l s k=none):lst l s (k+1)=some a.seq:=by
 rw[lst,ha]
 simp only[h,hn,bef]
 rfl
theorem lst_less {l:List Ac} {s a:Ac} {k:Nat} {x:Int} (ha:l[k]?=some a) (h:(ovr s.seq a&&mt s a)=true) (hx:lst l s k=some x) (hlt:a.seq<x):lst l s (k+1)=some a.seq:=by
 rw[lst,ha]
 simp only[h,hx,bef,hlt]
 rfl
theorem lst_more {l:List Ac} {s a:Ac} {k:Nat} {x:Int} (ha:l[k]?=some a) (hx:lst l s k=some x) (hle:x≤a.seq):lst l s (k+1)=lst l s k:=by
 rw[lst,ha]
 have:¬a.seq<x:=by omega
 simp[hx,bef,this]
theorem mt_of {s a:Ac} {x:Int} (h1:hs s x=true) (h2:hs a x=true):mt s a=true:=by
 simp only[hs,decide_eq_true_eq]at h1 h2
 exact decide_eq_true ⟨by omega,by omega,by omega,by omega⟩
theorem mt_ex {s a:Ac} (h:mt s a=true):∃x,(x=s.pl∨x=a.pl)∧hs s x=true∧hs a x=true:=by
 simp only[mt,decide_eq_true_eq]at h
 by_cases hle:a.pl≤s.pl
 ·exact⟨s.pl,.inl rfl,decide_eq_true ⟨by omega,by omega⟩,decide_eq_true ⟨by omega,by omega⟩⟩
 ·exact⟨a.pl,.inr rfl,decide_eq_true ⟨by omega,by omega⟩,decide_eq_true ⟨by omega,by omega⟩⟩
def four (f:Nat→Int):Int:=f 0+f 1*256+f 2*65536+f 3*16777216
def upto (m:Nat) (f:Nat→Int):Nat→Int:=fun i=>if i<m then f i else 0
theorem le_four (m:Nat) (hm:m=1∨m=2∨m=4) (f:Nat→Int):le f m=four (upto m f):=by
 rcases hm with rfl|rfl|rfl<;>simp[le,four,upto]
def put1 (f:Nat→Int) (n:Nat) (b:Int):Nat→Int:=fun i=>if i=n then b else f i
theorem high_nat (k W:Nat) (hk:k≤32) (h:W<4294967296):W&&& ((2^(32-k)-1)<<<k)=2^k*(W/2^k):=by
 apply Nat.eq_of_testBit_eq
 intro j
 rw[Nat.testBit_and,Nat.testBit_shiftLeft,Nat.testBit_two_pow_sub_one,Nat.testBit_two_pow_mul,Nat.testBit_div_two_pow]
 by_cases hj:k≤j
 ·by_cases h32:j<32
  ·simp[hj]
   intro _;omega
  ·have:W.testBit j=false:=Nat.testBit_lt_two_pow (Nat.lt_of_lt_of_le h (by rw[show 4294967296=2^32 by rfl];exact Nat.pow_le_pow_right (by omega) (by omega)))
   rw[show j-k+k=j by omega]
   simp[this]
 ·simp[hj]
theorem clear_nat (i W:Nat) (hi:i=0∨i=8∨i=16∨i=24) (h:W<4294967296):W&&& (4294967295-255*2^i)=W%2^i+2^(i+8)*(W/2^(i+8)):=by
 have e:4294967295-255*2^i=(2^i-1)|||((2^(32-(i+8))-1)<<<(i+8)):=by rcases hi with rfl|rfl|rfl|rfl<;>decide
 rw[e,Nat.and_or_distrib_left,Nat.and_two_pow_sub_one_eq_mod,high_nat _ _ (by omega) h,Nat.or_comm]
 rw[nat_join (i+8) _ _ (by simp) (Nat.lt_of_lt_of_le (Nat.mod_lt _ (Nat.two_pow_pos _)) (Nat.pow_le_pow_right (by omega) (by omega)))]
 omega
theorem lay_any (i:Nat) (hi:i=0∨i=8∨i=16∨i=24) (P W b:Int) (hP:P=((2^i:Nat):Int)) (w0:0≤W) (w1:W<4294967296) (b0:0≤b) (b1:b≤255):
  bits .or .u32 (bits .andNot .u32 W (255*P)) (b*P)=W%P+b*P+256*P*(W/(256*P)):=by
 obtain⟨N,rfl⟩:=Int.eq_ofNat_of_zero_le w0
 have hN:N<4294967296:=by omega
 rcases hi with rfl|rfl|rfl|rfl
 ·obtain rfl:P=1:=hP
  have e1:bits .andNot .u32 (N:Int) (255*1)=(N:Int)%1+256*((N:Int)/256):=by
   have h1:=u32_andNot_nat N 255 hN (by omega)
   have h2:N&&& (4294967295-255)=N%1+256*(N/256):=clear_nat 0 N (by omega) hN
   rw[h2]at h1
   refine h1.trans ?_
   omega
  rw[e1,or_slot 0 8 (by omega) 1 256 _ _ rfl rfl (by omega) (by omega) (by omega) (by omega) (by omega) (by omega) (by omega)]
  omega
 ·obtain rfl:P=256:=hP
  have e1:bits .andNot .u32 (N:Int) (255*256)=(N:Int)%256+65536*((N:Int)/65536):=by
   have h1:=u32_andNot_nat N 65280 hN (by omega)
   have h2:N&&& (4294967295-65280)=N%256+65536*(N/65536):=clear_nat 8 N (by omega) hN
   rw[h2]at h1
   refine h1.trans ?_
   omega
  rw[e1,or_slot 8 16 (by omega) 256 65536 _ _ rfl rfl (by omega) (by omega) (by omega) (by omega) (by omega) (by omega) (by omega)]
  omega
 ·obtain rfl:P=65536:=hP
  have e1:bits .andNot .u32 (N:Int) (255*65536)=(N:Int)%65536+16777216*((N:Int)/16777216):=by
   have h1:=u32_andNot_nat N 16711680 hN (by omega)
   have h2:N&&& (4294967295-16711680)=N%65536+16777216*(N/16777216):=clear_nat 16 N (by omega) hN
   rw[h2]at h1
   refine h1.trans ?_
   omega
  rw[e1,or_slot 16 24 (by omega) 65536 16777216 _ _ rfl rfl (by omega) (by omega) (by omega) (by omega) (by omega) (by omega) (by omega)]
  omega
 ·obtain rfl:P=16777216:=hP
  have e1:bits .andNot .u32 (N:Int) (255*16777216)=(N:Int)%16777216+4294967296*((N:Int)/4294967296):=by
   have h1:=u32_andNot_nat N 4278190080 hN (by omega)
   have h2:N&&& (4294967295-4278190080)=N%16777216+4294967296*(N/4294967296):=clear_nat 24 N (by omega) hN
   rw[h2]at h1
   refine h1.trans ?_
   omega
  rw[e1,or_slot 24 32 (by omega) 16777216 4294967296 _ _ rfl rfl (by omega) (by omega) (by omega) (by omega) (by omega) (by omega) (by omega)]
  omega
theorem lay_four (n:Nat) (f:Nat→Int) (b W P:Int) (hn:n<4) (hP:P=((2^(8*n):Nat):Int)) (hf:∀i,0≤f i∧f i≤255) (b0:0≤b) (b1:b≤255) (hW:W=four f):
  bits .or .u32 (bits .andNot .u32 W (255*P)) (b*P)=four (put1 f n b):=by
 have h0:=hf 0
 have h1:=hf 1
 have h2:=hf 2
 have h3:=hf 3
 have w0:0≤W∧W<4294967296:=by subst hW;unfold four;omega
 rw[lay_any (8*n) (by omega) P W b hP w0.1 w0.2 b0 b1]
 subst hW
 rcases(by omega:n=0∨n=1∨n=2∨n=3)with rfl|rfl|rfl|rfl
 ·obtain rfl:P=1:=hP
  simp[four,put1];omega
 ·obtain rfl:P=256:=hP
  simp[four,put1];omega
 ·obtain rfl:P=65536:=hP
  simp[four,put1];omega
 ·obtain rfl:P=16777216:=hP
  simp[four,put1];omega
end Go.Proofs.YtpiohehijkpghacGreatDoor.Od
namespace Go.Proofs.YtpiohehijkpghacGreatDoor.Od
open Go.Proofs.YtpiohehijkpghacGreatDoor.Wi
open Go.RowKit
open Hy
set_option linter.unusedVariables false
set_option linter.unusedSimpArgs false
def sb (l:List Ac) (seq:Int) (n A:Nat) (f:Nat→Int):Nat→Int:=fun i=>seen l seq ((A:Int)+i) (f (A+i)) n
theorem sb_rng {l:List Ac} {seq:Int} {n A:Nat} {f:Nat→Int} {i:Nat} (h:0≤f (A+i)∧f (A+i)≤255):0≤sb l seq n A f i∧sb l seq n A f i≤255:=seen_rng _ _ _ _ _ h
def Sure (l:List Ac) (seq:Int) (k:Nat) (U:Bool):Prop:=U=true↔∀(j:Nat) (q:Ac),j<k→l[j]?=some q→unk seq q=false
theorem Sure.eq {l:List Ac} {seq:Int} {n m:Nat} {U:Bool} (h:Sure l seq n U) (hm:FirstA (unk seq) l m) (hl:l.length=n):U=!(decide (m<n)):=by
 unfold Sure at h
 by_cases hlt:m<n
 ·obtain⟨q,hq⟩:=atA_ex (l:=l) (k:=m) (by omega)
  have:¬U=true:=fun hu=>by have h1:=h.1 hu m q hlt hq;rw[hm.yes q hq]at h1;cases h1
  simp[hlt]
  simpa using this
 ·have:U=true:=h.2 fun j q hj hq=>hm.no j q (by omega) hq
  simp[hlt,this]
def Fit (many:Int) (A ml:Nat):Prop:=(many=1∨many=2∨many=4)∧(A:Int)%many=0∧(A:Int)+many≤ml
end Go.Proofs.YtpiohehijkpghacGreatDoor.Od
namespace Go.Proofs.YtpiohehijkpghacGreatDoor.Re.Hy
open Go.RowKit
set_option linter.unusedVariables false
def cn (g:Nat→Int) (x:Int):Nat→Nat
 |0=>0
 |k+1=>cn g x k+(if g k=x then 1 else 0)
def sm (h:Nat→Nat):Nat→Nat
 |0=>0
 |k+1=>sm h k+h k
def jn (r f:Nat→Int) (i:Nat):Int:=if i<32 then r i else f (i-32)
theorem jn_r {r f:Nat→Int} {i:Nat} (h:i<32):jn r f i=r i:=if_pos h
theorem jn_f {r f:Nat→Int} (i:Nat):jn r f (32+i)=f i:=by
 unfold jn
 rw[if_neg (by omega),show 32+i-32=i by omega]
theorem cn_le (g:Nat→Int) (x:Int):∀n,cn g x n≤n
 |0=>Nat.le_refl _
 |n+1=>by
  have:=cn_le g x n
  unfold cn
  split<;>omega
theorem cn_congr {g h:Nat→Int} (x:Int):∀n,(∀i,i<n→g i=h i)→cn g x n=cn h x n
 |0,_=>rfl
 |n+1,e=>by
  unfold cn
  rw[cn_congr x n (fun i hi=>e i (by omega)),e n (by omega)]
theorem cn_zero (g:Nat→Int) (x:Int):∀n,cn g x n=0↔∀i,i<n→g i≠x
 |0=>⟨fun _ i h=>absurd h (by omega),fun _=>rfl⟩
 |n+1=>by
  have ih:=cn_zero g x n
  constructor
  ·intro h i hi
   have h':cn g x n+(if g n=x then 1 else 0)=0:=h
   by_cases e:g n=x
   ·rw[if_pos e]at h';omega
   ·rcases(by omega:i<n∨i=n)with q|q
    ·exact ih.1 (by omega) i q
    ·rw[q];exact e
  ·intro h
   show cn g x n+(if g n=x then 1 else 0)=0
   rw[if_neg (h n (by omega)),ih.2 (fun i hi=>h i (by omega))]
theorem cn_one (g:Nat→Int) (Q:Int→Prop):∀n,(∀i,i<n→Q (g i))→((∀x,Q x→cn g x n≤1)↔∀i j,i<n→j<n→g i=g j→i=j)
 |0,_=>⟨fun _ i _ h=>absurd h (by omega),fun _ x _=>by simp[cn]⟩
 |n+1,hQ=>by
  have ih:=cn_one g Q n (fun i hi=>hQ i (by omega))
  constructor
  ·intro h
   have h1:∀x,Q x→cn g x n≤1:=fun x hx=>by
    have:=h x hx
    unfold cn at this
    omega
   have h2:∀i,i<n→g i≠g n:=by
    have h3:=h (g n) (hQ n (by omega))
    unfold cn at h3
    rw[if_pos rfl]at h3
    exact(cn_zero g (g n) n).1 (by omega)
   intro i j hi hj e
   rcases(by omega:i<n∨i=n)with a|a<;>rcases(by omega:j<n∨j=n)with b|b
   ·exact(ih.1 h1) i j a b e
   ·subst b;exact absurd e (h2 i a)
   ·subst a;exact absurd e.symm (h2 j b)
   ·omega
  ·intro h x hx
   have h1:=ih.2 (fun i j hi hj e=>h i j (by omega) (by omega) e) x hx
   unfold cn
   by_cases e:g n=x
   ·have:cn g x n=0:=(cn_zero g x n).2 fun i hi e2=>by
     have:=h i n (by omega) (by omega) (by rw[e,e2])
     omega
    rw[if_pos e];omega
   ·rw[if_neg e];omega
theorem sm_congr {a b:Nat→Nat}:∀n,(∀i,i<n→a i=b i)→sm a n=sm b n
 |0,_=>rfl
 |n+1,e=>by
  unfold sm
  rw[sm_congr n (fun i hi=>e i (by omega)),e n (by omega)]
theorem sm_le {a b:Nat→Nat}:∀n,(∀i,i<n→a i≤b i)→sm a n≤sm b n
 |0,_=>Nat.le_refl _
 |n+1,e=>by
  have h1:=sm_le n (fun i hi=>e i (by omega))
  have h2:=e n (by omega)
  unfold sm
  omega
theorem sm_eq {a b:Nat→Nat}:∀n,(∀i,i<n→a i≤b i)→sm a n=sm b n→∀i,i<n→a i=b i
 |0,_,_=>fun i h=>absurd h (by omega)
 |n+1,e,h=>fun i hi=>by
  have h1:=sm_le n (fun i hi=>e i (by omega))
  have h2:=e n (by omega)
  unfold sm at h
  rcases(by omega:i<n∨i=n)with q|q
  ·exact sm_eq n (fun i hi=>e i (by omega)) (by omega) i q
  ·subst q;omega
theorem sm_ones {a:Nat→Nat} (n:Nat) (h:∀i,i<n→a i≤1):sm a n≤n:=by
 have:∀n,sm (fun _=>1) n=n:=fun n=>by
  induction n with
  |zero=>rfl
  |succ n ih=>show sm _ n+1=n+1;rw[ih]
 exact Nat.le_trans (sm_le n h) (Nat.le_of_eq (this n))
theorem sm_add (a b:Nat→Nat):∀n,sm (fun i=>a i+b i) n=sm a n+sm b n
 |0=>rfl
 |n+1=>by
  show sm (fun i=>a i+b i) n+(a n+b n)=sm a n+a n+(sm b n+b n)
  rw[sm_add a b n]
  omega
theorem sm_hit (y:Int):∀n:Nat,sm (fun p=>if y=(p:Int)then 1 else 0) n=if 0≤y∧y<n then 1 else 0
 |0=>by simp[sm]
 |n+1=>by
  show sm (fun p=>if y=(p:Int)then 1 else 0) n+(if y=(n:Int)then 1 else 0)=_
  rw[sm_hit y n]
  by_cases e:y=n
  ·rw[if_neg (by omega),if_pos e,if_pos (by omega)]
  ·rw[if_neg e]
   by_cases q:0≤y∧y<n
   ·rw[if_pos q,if_pos (by omega)]
   ·rw[if_neg q,if_neg (by omega)]
theorem sm_cn (g:Nat→Int) (P:Nat):∀N,sm (fun p=>cn g p (N+1)) P=sm (fun p=>cn g p N) P+if 0≤g N∧g N<P then 1 else 0:=fun N=>by
 have:sm (fun p=>cn g p (N+1)) P=sm (fun p=>cn g p N+(if g N=(p:Int)then 1 else 0)) P:=rfl
 rw[this,sm_add,sm_hit]
theorem sm_cn_le (g:Nat→Int) (P:Nat):∀N,sm (fun p=>cn g p N) P≤N
 |0=>by
  have:sm (fun p=>cn g p 0) P≤sm (fun _=>0) P:=sm_le P (fun i _=>Nat.le_refl _)
  have h0:∀n,sm (fun _=>0) n=0:=fun n=>by induction n with
   |zero=>rfl
   |succ n ih=>show sm _ n+0=0;rw[ih]
  rw[h0]at this
  exact this
 |N+1=>by
  rw[sm_cn]
  have:=sm_cn_le g P N
  split<;>omega
theorem sm_cn_all (g:Nat→Int) (P:Nat):∀N,sm (fun p=>cn g p N) P=N↔∀i,i<N→0≤g i∧g i<P
 |0=>⟨fun _ i h=>absurd h (by omega),fun _=>by have:=sm_cn_le g P 0;omega⟩
 |N+1=>by
  have ih:=sm_cn_all g P N
  have hle:=sm_cn_le g P N
  rw[sm_cn]
  constructor
  ·intro h i hi
   by_cases e:0≤g N∧g N<P
   ·rw[if_pos e]at h
    rcases(by omega:i<N∨i=N)with q|q
    ·exact ih.1 (by omega) i q
    ·rw[q];exact e
   ·rw[if_neg e]at h;omega
  ·intro h
   rw[if_pos (h N (by omega)),ih.2 (fun i hi=>h i (by omega))]
structure All (g:Nat→Int) (N P:Nat):Prop where
 rng:∀i,i<N→0≤g i∧g i<P
 inj:∀i j,i<N→j<N→g i=g j→i=j
theorem all_doc (g:Nat→Int) (N P:Nat):((∀p,p<P→cn g (p:Nat) N≤1)∧sm (fun p=>cn g p N) P=N)↔All g N P:=by
 rw[sm_cn_all]
 constructor
 ·rintro⟨h,hr⟩
  refine⟨hr,(cn_one g (fun x=>0≤x∧x<P) N hr).1 fun x hx=>?_⟩
  have:=h x.toNat (by omega)
  rwa [Int.toNat_of_nonneg hx.1]at this
 ·rintro⟨hr,hi⟩
  exact⟨fun p hp=>(cn_one g (fun x=>0≤x∧x<P) N hr).2 hi p ⟨by omega,by omega⟩,hr⟩
def o1 (g:Nat→Int) (N p:Nat):Nat:=if cn g p N=1 then 1 else 0
theorem all_prog (g:Nat→Int) (N P:Nat):(N≤P∧sm (o1 g N) P=N)↔All g N P:=by
 rw[←all_doc]
 have hle:∀p,p<P→o1 g N p≤cn g p N:=fun p _=>by unfold o1;split<;>omega
 constructor
 ·rintro⟨h1,h2⟩
  have a:=sm_le P hle
  have b:=sm_cn_le g P N
  have c:=sm_eq P hle (by omega)
  refine⟨fun p hp=>?_,by omega⟩
  rw[←c p hp]
  unfold o1
  split<;>omega
 ·rintro⟨h1,h2⟩
  have c:∀p,p<P→o1 g N p=cn g p N:=fun p hp=>by
   have:=h1 p hp
   unfold o1
   split<;>omega
  have e:sm (o1 g N) P=N:=(sm_congr P c).trans h2
  refine⟨?_,e⟩
  have:=sm_ones P (fun i hi=>(show o1 g N i≤1 by unfold o1;split<;>omega))
  omega
structure MayBe (P:Int) (n:Nat) (r f:Nat→Int):Prop where
 low:33≤P
 high:P≤96
 all:All (jn r f) (32+n) P.toNat
theorem MayBe.few {P:Int} {n:Nat} {r f:Nat→Int} (h:MayBe P n r f):32+n≤P∧n≤64:=by
 have:=((all_prog _ _ _).2 h.all).1
 have:=h.low
 have:=h.high
 omega
theorem MayBe.mk' {P:Int} {n:Nat} {r f:Nat→Int} (low:33≤P) (high:P≤96) (hr:∀i,i<32→0≤r i∧r i<P) (hf:∀i,i<n→0≤f i∧f i<P)
  (rr:∀i j,i<32→j<32→r i=r j→i=j) (ff:∀i j,i<n→j<n→f i=f j→i=j) (rf:∀i j,i<32→j<n→r i≠f j):MayBe P n r f:=by
 refine⟨low,high,fun i hi=>?_,fun i j hi hj e=>?_⟩
 ·by_cases a:i<32
  ·rw[jn_r a];have:=hr i a;omega
  ·rw[show i=32+(i-32) by omega,jn_f];have:=hf (i-32) (by omega);omega
 ·by_cases a:i<32<;>by_cases b:j<32
  ·rw[jn_r a,jn_r b]at e;exact rr i j a b e
  ·rw[jn_r a,show j=32+(j-32) by omega,jn_f]at e;exact absurd e (rf i _ a (by omega))
  ·rw[jn_r b,show i=32+(i-32) by omega,jn_f]at e;exact absurd e.symm (rf j _ b (by omega))
  ·rw[show i=32+(i-32) by omega,show j=32+(j-32) by omega,jn_f,jn_f]at e
   have:=ff (i-32) (j-32) (by omega) (by omega) e
   omega
def up (f:Nat→Int) (k:Nat) (x:Int) (j:Nat):Int:=if j=k then x else f j
theorem up_at (f:Nat→Int) (k:Nat) (x:Int):up f k x k=x:=if_pos rfl
theorem up_ne {f:Nat→Int} {k:Nat} {x:Int} {j:Nat} (h:j≠k):up f k x j=f j:=if_neg h
theorem up_up (f:Nat→Int) (k:Nat) (x y:Int):up (up f k x) k y=up f k y:=by
 funext j
 unfold up
 split<;>rfl
theorem up_id (f:Nat→Int) (k:Nat):up f k (f k)=f:=by
 funext j
 unfold up
 split
 ·rename_i h;rw[h]
 ·rfl
def tl (f:Nat→Int) (i:Nat):Int:=f (i+1)
def hd (x:Int) (f:Nat→Int) (i:Nat):Int:=if i=0 then x else f (i-1)
def en (f:Nat→Int) (n:Nat) (x:Int) (i:Nat):Int:=if i<n then f i else x
structure Idle (P:Int) (n:Nat) (r f:Nat→Int) (x:Int):Prop where
 lo:0≤x
 hi:x<P
 no:cn (jn r f) x (32+n)=0
theorem Idle.mk' {P:Int} {n:Nat} {r f:Nat→Int} {x:Int} (lo:0≤x) (hi:x<P) (hr:∀i,i<32→r i≠x) (hf:∀i,i<n→f i≠x):Idle P n r f x:=by
 refine⟨lo,hi,(cn_zero _ _ _).2 fun i hi=>?_⟩
 by_cases a:i<32
 ·rw[jn_r a];exact hr i a
 ·rw[show i=32+(i-32) by omega,jn_f];exact hf _ (by omega)
abbrev mcs (P:Int) (r:Nat→Int) (v:Value):Array Value:=#[.int .i64 P,.int .i64 (r 0),.int .i64 (r 1),.int .i64 (r 2),.int .i64 (r 3),.int .i64 (r 4),.int .i64 (r 5),.int .i64 (r 6),.int .i64 (r 7),.int .i64 (r 8),.int .i64 (r 9),.int .i64 (r 10),.int .i64 (r 11),.int .i64 (r 12),.int .i64 (r 13),.int .i64 (r 14),.int .i64 (r 15),.int .i64 (r 16),.int .i64 (r 17),.int .i64 (r 18),.int .i64 (r 19),.int .i64 (r 20),.int .i64 (r 21),.int .i64 (r 22),.int .i64 (r 23),.int .i64 (r 24),.int .i64 (r 25),.int .i64 (r 26),.int .i64 (r 27),.int .i64 (r 28),.int .i64 (r 29),.int .i64 (r 30),.int .i64 (r 31),v]
theorem mcs_R (P:Int) (r:Nat→Int) (v:Value) (k:Nat) (h:k<32):(mcs P r v)[1+k]?=some (.int .i64 (r k)):=
 match k,h with
 |0,_=>rfl
 |1,_=>rfl
 |2,_=>rfl
 |3,_=>rfl
 |4,_=>rfl
 |5,_=>rfl
 |6,_=>rfl
 |7,_=>rfl
 |8,_=>rfl
 |9,_=>rfl
 |10,_=>rfl
 |11,_=>rfl
 |12,_=>rfl
 |13,_=>rfl
 |14,_=>rfl
 |15,_=>rfl
 |16,_=>rfl
 |17,_=>rfl
 |18,_=>rfl
 |19,_=>rfl
 |20,_=>rfl
 |21,_=>rfl
 |22,_=>rfl
 |23,_=>rfl
 |24,_=>rfl
 |25,_=>rfl
 |26,_=>rfl
 |27,_=>rfl
 |28,_=>rfl
 |29,_=>rfl
 |30,_=>rfl
 |31,_=>rfl
 |n+32,h=>absurd h (by omega)
theorem set_R (P:Int) (r:Nat→Int) (v:Value) (x:Int) (k:Nat) (h:k<32):(mcs P r v).setIfInBounds (1+k) (.int .i64 x)=mcs P (up r k x) v:=
 match k,h with
 |0,_=>rfl
 |1,_=>rfl
 |2,_=>rfl
 |3,_=>rfl
 |4,_=>rfl
 |5,_=>rfl
 |6,_=>rfl
 |7,_=>rfl
 |8,_=>rfl
 |9,_=>rfl
 |10,_=>rfl
 |11,_=>rfl
 |12,_=>rfl
 |13,_=>rfl
 |14,_=>rfl
 |15,_=>rfl
 |16,_=>rfl
 |17,_=>rfl
 |18,_=>rfl
 |19,_=>rfl
 |20,_=>rfl
 |21,_=>rfl
 |22,_=>rfl
 |23,_=>rfl
 |24,_=>rfl
 |25,_=>rfl
 |26,_=>rfl
 |27,_=>rfl
 |28,_=>rfl
 |29,_=>rfl
 |30,_=>rfl
 |31,_=>rfl
 |n+32,h=>absurd h (by omega)
theorem set_F (P:Int) (r:Nat→Int) (v u:Value):(mcs P r v).setIfInBounds 33 u=mcs P r u:=rfl
theorem set_P (P Q:Int) (r:Nat→Int) (v:Value):(mcs P r v).setIfInBounds 0 (.int .i64 Q)=mcs Q r v:=rfl
theorem mcs_size (P:Int) (r:Nat→Int) (v:Value):(mcs P r v).size=34:=rfl
end Go.Proofs.YtpiohehijkpghacGreatDoor.Re.Hy
