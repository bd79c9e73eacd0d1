/- A core as memory holds it: its cells, its slices, what stays of them. -/
import Derived.Deep.AppendSrc
import Derived.Deep.MidRow
import Derived.Test.YtpiohehijkpghacGreatDoorG02
import Derived.Test.YtpiohehijkpghacGreatDoorG14
import Derived.Test.YtpiohehijkpghacGreatDoorG13
import Derived.Test.YtpiohehijkpghacGreatDoorG11
import Derived.Test.YtpiohehijkpghacGreatDoorG08
set_option maxRecDepth 20000
set_option maxHeartbeats 1000000
namespace Go.Proofs.YtpiohehijkpghacGreatDoor.Wi
open Go.RowKit
set_option linter.unusedVariables false
structure Rv (x y:List Int) (k:Nat):Prop where
 len:y.length=x.length
 out:∀i,i<x.length→(i<k∨x.length-1-i<k)→y[i]?=x[x.length-1-i]?
 mid:∀i,i<x.length→¬(i<k∨x.length-1-i<k)→y[i]?=x[i]?
theorem rv_zero (x:List Int):Rv x x 0:=⟨rfl,fun i _ h=>by omega,fun i _ _=>rfl⟩
theorem Rv.step {x y:List Int} {k j:Nat} (h:Rv x y k) (hj:k+j+1=x.length) (hkj:k<j) {a b:Int} (ha:y[k]?=some a) (hb:y[j]?=some b):Rv x ((y.set k b).set j a) (k+1):=by
 have hl:=h.len
 have ea:x[k]?=some a:=by rw[←h.mid k (by omega) (by omega)];exact ha
 have eb:x[j]?=some b:=by rw[←h.mid j (by omega) (by omega)];exact hb
 refine⟨by simp[hl],fun i hi hc=>?_,fun i hi hc=>?_⟩
 ·rw[List.getElem?_set,List.getElem?_set]
  by_cases e1:j=i
  ·subst e1
   rw[if_pos rfl,if_pos (by simp;omega),show x.length-1-j=k by omega,ea]
  ·rw[if_neg e1]
   by_cases e2:k=i
   ·subst e2
    rw[if_pos rfl,if_pos (by omega),show x.length-1-k=j by omega,eb]
   ·rw[if_neg e2]
    exact h.out i hi (by omega)
 ·rw[List.getElem?_set,List.getElem?_set,if_neg (by omega),if_neg (by omega)]
  exact h.mid i hi (by omega)
theorem Rv.all {x y:List Int} {k j:Nat} (h:Rv x y k) (hj:k+j+1=x.length) (hkj:j≤k):y=x.reverse:=by
 have hl:=h.len
 apply List.ext_getElem?
 intro i
 by_cases hi:i<x.length
 ·rw[List.getElem?_reverse hi]
  by_cases hc:i<k∨x.length-1-i<k
  ·exact h.out i hi hc
  ·rw[h.mid i hi hc,show x.length-1-i=i by omega]
 ·rw[List.getElem?_eq_none (by omega),List.getElem?_eq_none (by simp;omega)]
theorem grown_trans {a b c:World} {r:Option Nat} (h:a.grownBy b r) (k:b.grownBy c r):a.grownBy c r:=
 ⟨k.os.trans h.os,k.tape.trans h.tape,k.output.trans h.output,Nat.le_trans h.size k.size,fun i hi hr=>(k.block i (Nat.lt_of_lt_of_le hi h.size) hr).trans (h.block i hi hr)⟩
theorem grown_drew {a b:World} {r:Option Nat} (h:a.grownBy b r):a.grownBy b.drew r:=⟨h.os,h.tape,h.output,h.size,h.block⟩
theorem own_apart {w:World} {B B' e e' n n' size size':Nat} {v v':Value} {xs xs':List Value} (h:w.ownsRow B e size v n xs) (h':w.ownsRow B' e' size' v' n' xs') (he:e≠e'):v.ownBlock=none∨v.ownBlock≠v'.ownBlock:=by
 rcases h.2 with⟨rfl,_⟩|⟨g,cap,cur,rfl,_,hh,_⟩
 ·exact .inl rfl
 ·rcases h'.2 with⟨rfl,_⟩|⟨g',cap',cur',rfl,_,hh',_⟩
  ·exact .inr (by simp[Value.ownBlock])
  ·refine .inr fun e0=>he ?_
   have:g=g':=by simpa[Value.ownBlock]using e0
   subst this
   rw[hh]at hh'
   simpa using(Obj.cells.inj (Option.some.inj hh')).2.1
theorem iReverse_none (w:World) (a:Option Addr) (c:Nat):
  Calls Tryz.prog 62 #[.slice a 0 c] w fun e w'=>e=.returned (.tuple #[])∧w'=w:=by
 go_enter Tryz.func62,Tryz.ntmps62
 go_wp2_with fail
 refine wp_loop_rounds 1 ?_
 rw[rounds_succ]
 go_wp2_with fail
 go_end0
 exact⟨rfl,rfl⟩
theorem iReverse_some (g cap n B:Nat) (x:List Int) (hn:0<n) (hn2:n≤140737488355328) (hx:Hid (x.length=n)) (w:World) (hO:Hid (w.ownsRow B 3 1 (.slice (some ⟨g,0,none⟩) n cap) n (ics x))):
  Calls Tryz.prog 62 #[.slice (some ⟨g,0,none⟩) n cap] w fun e w'=>e=.returned (.tuple #[])∧Hid (w'.ownsRow B 3 1 (.slice (some ⟨g,0,none⟩) n cap) n (ics x.reverse))∧w.grownBy w' (some g):=by
 go_enter Tryz.func62,Tryz.ntmps62
 go_wp2_with fail
 go_loopw [2,3] (fun i j wr=>∃(k jj:Nat) (y:List Int),k+jj+1=n∧i=.int .i64 k∧j=.int .i64 jj∧Hid (wr.ownsRow B 3 1 (.slice (some ⟨g,0,none⟩) n cap) n (ics y))∧Hid (Rv x y k)∧Hid (w.grownBy wr (some g)))
  (fun i j _=>(intOf j).toNat+1-(intOf i).toNat)
 case atStart=>exact⟨0,n-1,x,by omega,rfl,by go_num,hO,rv_zero x,World.grownBy.refl _ _⟩
 case round=>
  obtain⟨k,j,y,hkj,rfl,rfl,HO,HR,HG⟩:=hrel
  by_cases hlt:k<j
  ·have hl:Hid (y.length=n):=HR.out.len.trans hx.out
   obtain⟨p,hp⟩:∃p,y[k]?=some p:=⟨_,List.getElem?_eq_getElem (by rw[hl.out];omega)⟩
   obtain⟨q,hq⟩:∃q,y[j]?=some q:=⟨_,List.getElem?_eq_getElem (by rw[hl.out];omega)⟩
   have c0:wr.cell? ⟨g,k,none⟩=some (.int .i64 p):=(HO.out.cellAt k (by omega)).trans (ics_get hp)
   have c1:wr.cell? ⟨g,j,none⟩=some (.int .i64 q):=(HO.out.cellAt j (by omega)).trans (ics_get hq)
   have f0:wr.frozen? ⟨g,k,none⟩=false:=HO.out.frozenAt _
   have f1:wr.frozen? ⟨g,j,none⟩=false:=HO.out.frozenAt _
   have hkn:k<n:=by omega
   have hjn:j<n:=by omega
   have Hp:Hid (y[k]?=some p):=hp
   have Hq:Hid (y[j]?=some q):=hq
   clear hp hq
   go_wp2_with fail
   go_region
   go_wp2_with fail
   have s1:=HO.out.stored k (.int .i64 q)
   have s2:=s1.1.stored j (.int .i64 p)
   rw[ics_set,ics_set]at s2
   exact⟨⟨k+1,j-1,_,by omega,by go_num,by go_num,s2.1.drew,HR.out.step (by rw[hx.out];exact hkj) hlt Hp.out Hq.out,grown_drew (grown_trans (grown_trans HG.out s1.2) s2.2)⟩,by simp[intOf];omega⟩
  ·go_wp2_with fail
   go_end0
   rw[HR.out.all (by rw[hx.out];exact hkj) (by omega)]at HO
   exact⟨rfl,HO,HG.out⟩
def styK (l:List Sl) (seq:Int) (k:Nat):List Sl:=(l.take k).filter fun q=>!above seq q
def gonK (l:List Sl) (seq:Int) (k:Nat):List Int:=((l.take k).filter fun q=>above seq q).map (·.1)
theorem sty_le (l:List Sl) (seq:Int) (k:Nat):(styK l seq k).length≤k:=Nat.le_trans (List.length_filter_le _ _) (by rw[List.length_take];omega)
theorem gon_le (l:List Sl) (seq:Int) (k:Nat):(gonK l seq k).length≤k:=by
 unfold gonK
 rw[List.length_map]
 exact Nat.le_trans (List.length_filter_le _ _) (by rw[List.length_take];omega)
theorem sty_goes {l:List Sl} {seq:Int} {k:Nat} {p:Sl} (h:l[k]?=some p) (ha:above seq p=true):styK l seq (k+1)=styK l seq k∧gonK l seq (k+1)=gonK l seq k++[p.1]:=by
 unfold styK gonK
 rw[take_at h,List.filter_append,List.filter_append,List.map_append]
 simp[ha]
theorem sty_stays {l:List Sl} {seq:Int} {k:Nat} {p:Sl} (h:l[k]?=some p) (ha:above seq p=false):styK l seq (k+1)=styK l seq k++[p]∧gonK l seq (k+1)=gonK l seq k:=by
 unfold styK gonK
 rw[take_at h,List.filter_append,List.filter_append,List.map_append]
 simp[ha]
theorem sty_all {l:List Sl} {seq:Int} {k:Nat} (h:l.length=k):styK l seq k=stayS l seq∧(gonK l seq k).reverse=cutS l seq:=by
 unfold styK gonK stayS cutS
 rw[List.take_of_length_le (by omega)]
 exact⟨rfl,rfl⟩
theorem pCut_any (a:Option Addr) (n c:Nat) (seq:Int) (l:List Sl) (hn:n*16≤140737488355328) (w:World) (hL:Hid (LC w a n c 2 (scs l))):
  Calls Tryz.prog 161 #[.slice a n c,.int .i64 seq] w fun e w'=>Gives2 w (stayS l seq) (cutS l seq) e w':=by
 obtain⟨i3,hi3,hz0,hz1,hz2⟩:=info_parts info3w
 obtain⟨iS,hiS,hs0,hs1,hs2⟩:=info_parts infoSl
 have hlen:Hid (l.length=n):=by have:=hL.out.len;rw[scs_len]at this;show _=_;omega
 go_enter Tryz.func161,Tryz.ntmps161
 go_wp2_with fail
 refine(pfrom_any seq _).mono ?_
 rintro e W1 ⟨rfl,hc,hb⟩
 have HB1:Hid (Below w.heap.size w W1):=hb
 have HA:Hid (Asks 169 w.heap.size (above seq) W1):=asks_from _ _ _ hc
 clear hc hb
 go_wp2_with fail
 go_loopw [6,7,15] (fun v u i wr=>∃k:Nat,k≤n∧i=.int .i64 k∧Hid (wr.ownsRow W1.heap.size 159 2 v (styK l seq k).length (scs (styK l seq k)))∧Hid (wr.ownsRow W1.heap.size 3 1 u (gonK l seq k).length (ics (gonK l seq k)))∧Hid (Below W1.heap.size W1 wr))
  (fun _ _ i _=>n-(intOf i).toNat)
 case atStart=>exact⟨0,by omega,rfl,World.ownsRow_nil _ _ _ _,World.ownsRow_nil _ _ _ _,Below.refl _ _⟩
 case round=>
  obtain⟨k,hk,rfl,HV,HU,HB⟩:=hrel
  have hsl:=sty_le l seq k
  have hgl:=gon_le l seq k
  by_cases hlt:k<n
  ·obtain⟨s,d,hsd⟩:=at_ex (l:=l) (k:=k) (by rw[hlen.out];exact hlt)
   obtain⟨bb,o,rfl,hb,hc⟩:=hL.out.sure (by omega)
   have HBW:Hid (Below w.heap.size w wr):=HB1.out.trans (HB.out.mono HB1.out.size)
   have c0:wr.cell? ⟨bb,o+k*2,none⟩=some (.int .i64 s):=(HBW.out.cell (p:=⟨bb,o+k*2,none⟩) hb).trans (hc _ _ (scs_seq _ _ _ hsd))
   have c1:wr.cell? ⟨bb,o+k*2+1,none⟩=some (.bool d):=(HBW.out.cell (p:=⟨bb,o+k*2+1,none⟩) hb).trans (by rw[Nat.add_assoc];exact hc _ _ (scs_done _ _ _ hsd))
   clear hc HBW
   go_upto_region 7 with fail
   refine one_box (Φ:=fun W=>Code.wp _ _ _ _ W) ?_
   intro U hU hUb
   have HBU:Hid (Below W1.heap.size W1 U):=HB.out.trans (hUb.mono HB.out.size)
   have HVU:=own_below HV.out (Nat.le_refl _) hUb
   have HUU:=own_below HU.out (Nat.le_refl _) hUb
   have e0:U.cell? ⟨wr.heap.size,0,none⟩=some (.int .i64 s):=(cell_of_row _ _ _ _ _ _ hU).trans rfl
   have e1:U.cell? ⟨wr.heap.size,1,none⟩=some (.bool d):=(cell_of_row _ _ _ _ _ _ hU).trans rfl
   have hqU:wr.heap.size<U.heap.size:=(Array.getElem?_eq_some_iff.1 hU).1
   have hcall:=HA.out U s d HBU.out
   clear hU hUb HB HV HU c0 c1
   generalize wr.heap.size=q at*
   cases ha:above seq (s,d)with
   |true=>
    rw[ha]at hcall
    obtain⟨HN1,HN2⟩:=sty_goes hsd ha
    have HN1':Hid (styK l seq (k+1)=styK l seq k):=HN1
    have HN2':Hid (gonK l seq (k+1)=gonK l seq k++[s]):=HN2
    clear HN1 HN2 ha hsd
    have HVU':Hid _:=HVU
    have HUU':Hid _:=HUU
    clear HVU HUU
    go_wp2_with fail
    refine hcall.mono ?_
    rintro e U2 ⟨rfl,hb2⟩
    have d0:U2.cell? ⟨q,0,none⟩=some (.int .i64 s):=(hb2.cell (p:=⟨q,0,none⟩) hqU).trans e0
    have HB2:Hid (Below W1.heap.size W1 U2):=HBU.out.trans (hb2.mono HBU.out.size)
    have HV2:Hid (U2.ownsRow W1.heap.size 159 2 u6 (styK l seq k).length (scs (styK l seq k))):=own_below HVU'.out (Nat.le_refl _) hb2
    have HU2:Hid (U2.ownsRow W1.heap.size 3 1 u7 (gonK l seq k).length (ics (gonK l seq k))):=own_below HUU'.out (Nat.le_refl _) hb2
    clear hb2 hcall e0 e1 HBU HVU' HUU' hqU
    go_wp2_with(at_builtin;refine wpList_append_lc _ rfl _ _ 29 rfl W1.heap.size 3 i3 _ 1 8 Tryz.underlying29 hi3 hz0 hz1 hz2 rfl (by decide) _ (gonK l seq k).length _ rfl (own_below HU2.out (Nat.le_refl _) ((Below.refl _ _).alloc (Nat.le_refl _) _)) _ 1 1 (ics [s]) rfl (lc_box (heap_alloc_new _ _) (ics_one [s]) rfl) (by unfold maxLen;omega) (by omega) (by have:=HB2.out.size;simp;omega) ?_;intro v1 w1 hown1 hgrow1)
    have HO1:Hid (w1.ownsRow W1.heap.size 3 1 v1 (gonK l seq (k+1)).length (ics (gonK l seq (k+1)))):=by rw[HN2'.out,ics_app,List.length_append];exact hown1
    have HO2:Hid (w1.ownsRow W1.heap.size 159 2 u6 (styK l seq (k+1)).length (scs (styK l seq (k+1)))):=by rw[HN1'.out];exact(HV2.out.alloc _).kept hgrow1 (own_apart HV2.out HU2.out (by decide))
    have HB3:Hid (Below W1.heap.size W1 w1):=(HB2.out.alloc HB2.out.size _).grown hgrow1 (by have:=HB2.out.size;simp;omega) (fun j hj=>(HU2.out.lt j hj).1)
    clear hown1 hgrow1 HB2 HV2 HU2 d0
    go_wp2_with fail
    exact⟨⟨k+1,by omega,by go_num,HO2,HO1,HB3⟩,by simp[intOf];omega⟩
   |false=>
    rw[ha]at hcall
    obtain⟨HN1,HN2⟩:=sty_stays hsd ha
    have HN1':Hid (styK l seq (k+1)=styK l seq k++[(s,d)]):=HN1
    have HN2':Hid (gonK l seq (k+1)=gonK l seq k):=HN2
    clear HN1 HN2 ha hsd
    have HVU':Hid _:=HVU
    have HUU':Hid _:=HUU
    clear HVU HUU
    go_wp2_with fail
    refine hcall.mono ?_
    rintro e U2 ⟨rfl,hb2⟩
    have d0:U2.cell? ⟨q,0,none⟩=some (.int .i64 s):=(hb2.cell (p:=⟨q,0,none⟩) hqU).trans e0
    have d1:U2.cell? ⟨q,1,none⟩=some (.bool d):=(hb2.cell (p:=⟨q,1,none⟩) hqU).trans e1
    have HB2:Hid (Below W1.heap.size W1 U2):=HBU.out.trans (hb2.mono HBU.out.size)
    have HV2:Hid (U2.ownsRow W1.heap.size 159 2 u6 (styK l seq k).length (scs (styK l seq k))):=own_below HVU'.out (Nat.le_refl _) hb2
    have HU2:Hid (U2.ownsRow W1.heap.size 3 1 u7 (gonK l seq k).length (ics (gonK l seq k))):=own_below HUU'.out (Nat.le_refl _) hb2
    clear hb2 hcall e0 e1 HBU HVU' HUU' hqU
    go_wp2_with(at_builtin;refine wpList_append_lc _ rfl _ _ 62 rfl W1.heap.size 159 iS _ 2 16 Tryz.underlying62 hiS hs0 hs1 hs2 rfl (by decide) _ (styK l seq k).length _ rfl (own_below HV2.out (Nat.le_refl _) ((Below.refl _ _).alloc (Nat.le_refl _) _)) _ 1 1 (scs [(s,d)]) rfl (lc_box (heap_alloc_new _ _) (scs_one [(s,d)]) rfl) (by unfold maxLen;omega) (by omega) (by have:=HB2.out.size;simp;omega) ?_;intro v1 w1 hown1 hgrow1)
    have HO1:Hid (w1.ownsRow W1.heap.size 159 2 v1 (styK l seq (k+1)).length (scs (styK l seq (k+1)))):=by rw[HN1'.out,scs_app,List.length_append];exact hown1
    have HO2:Hid (w1.ownsRow W1.heap.size 3 1 u7 (gonK l seq (k+1)).length (ics (gonK l seq (k+1)))):=by rw[HN2'.out];exact(HU2.out.alloc _).kept hgrow1 (own_apart HU2.out HV2.out (by decide))
    have HB3:Hid (Below W1.heap.size W1 w1):=(HB2.out.alloc HB2.out.size _).grown hgrow1 (by have:=HB2.out.size;simp;omega) (fun j hj=>(HV2.out.lt j hj).1)
    clear hown1 hgrow1 HB2 HV2 HU2 d0 d1
    go_wp2_with fail
    exact⟨⟨k+1,by omega,by go_num,HO1,HO2,HB3⟩,by simp[intOf];omega⟩
  ·have:k=n:=by omega
   subst this
   obtain⟨E1,E2⟩:=sty_all (seq:=seq) hlen.out
   rw[E1]at HV
   obtain⟨x,hx⟩:∃x,Hid (x=gonK l seq k):=⟨_,rfl⟩
   rw[←hx.out]at HU hgl E2
   have E3:Hid (x.reverse=cutS l seq):=E2
   have HBW:Hid (Below w.heap.size w wr):=HB1.out.trans (HB.out.mono HB1.out.size)
   clear E1 E2
   by_cases h0:x.length=0
   ·obtain rfl:x=[]:=List.eq_nil_of_length_eq_zero h0
    obtain⟨pu,cu,rfl⟩:=owns_slice' HU.out
    clear h0
    go_wp2_with fail
    refine(iReverse_none _ _ _).mono ?_
    rintro e W4 ⟨rfl,rfl⟩
    go_wp2_with fail
    refine bodyPost_ret (v:=.tuple #[u6,.slice pu 0 cu]) ?_ rfl (by rw[←E3.out];exact gives2_own rfl rfl (own_base HV.out HB1.out.size) (own_base HU.out HB1.out.size) HBW.out)
    simp[results,Tryz.results161,asAddr]
   ·obtain⟨g,cu,rfl⟩:=own_some HU.out (by omega)
    have hgb:=(HU.out.lt g rfl).1
    have hAp:=own_apart HV.out HU.out (by decide)
    go_wp2_with fail
    refine(iReverse_some g cu x.length W1.heap.size x (by omega) (by omega) rfl wr HU).mono ?_
    rintro e W4 ⟨rfl,hown,hgrow⟩
    have HV4:=HV.out.kept hgrow hAp
    have HB4:Hid (Below w.heap.size w W4):=HBW.out.grown hgrow HBW.out.size (fun j hj=>by cases hj;have:=HB1.out.size;omega)
    go_wp2_with fail
    refine bodyPost_ret (v:=.tuple #[u6,.slice (some ⟨g,0,none⟩) x.length cu]) ?_ rfl (by rw[←E3.out];exact gives2_own rfl (List.length_reverse ..) (own_base HV4 HB1.out.size) (own_base hown.out HB1.out.size) HB4.out)
    simp[results,Tryz.results161,asAddr]
end Go.Proofs.YtpiohehijkpghacGreatDoor.Wi
namespace Go.Proofs.YtpiohehijkpghacGreatDoor.Co
open Go.RowKit
open Hy
open Wi Od Re.Hy
open Gu.Hy (Tb tcs)
set_option linter.unusedVariables false
set_option linter.unusedSimpArgs false
def rowOf (f:Nat→Value) (n:Nat):Array Value:=((List.range n).map f).toArray
theorem rowOf_size (f:Nat→Value) (n:Nat):(rowOf f n).size=n:=by simp[rowOf]
theorem rowOf_get (f:Nat→Value) {n i:Nat} (h:i<n):(rowOf f n)[i]?=some (f i):=by simp[rowOf,h]
theorem rowOf_congr {f g:Nat→Value} {n:Nat} (h:∀i,i<n→f i=g i):rowOf f n=rowOf g n:=by
 unfold rowOf
 rw[List.map_congr_left (fun i hi=>h i (List.mem_range.1 hi))]
theorem row_ext {A:Array Value} {f:Nat→Value} {n:Nat} (hs:A.size=n) (h:∀i,i<n→A[i]?=some (f i)):A=rowOf f n:=by
 apply Array.ext_getElem?
 intro i
 by_cases hi:i<n
 ·rw[h i hi,rowOf_get f hi]
 ·rw[Array.getElem?_eq_none (by omega),Array.getElem?_eq_none (by rw[rowOf_size];omega)]
theorem rowOf_set (f:Nat→Value) (n i:Nat) (v:Value):(rowOf f n).setIfInBounds i v=rowOf (fun j=>if j=i then v else f j) n:=by
 refine row_ext (by simp[rowOf_size]) fun j hj=>?_
 rw[Array.getElem?_setIfInBounds]
 by_cases e:i=j
 ·subst e
  simp[rowOf_size,hj]
 ·have e':¬j=i:=fun h=>e h.symm
  simp[e,e',rowOf_get f hj]
def hat (R:Nat→Int) (pc st ca:Int) (i:Nat):Value:=if i<32 then .int .u32 (R i)else if i=32 then .int .u32 pc else if i=33 then .int .i64 st else .int .i64 ca
def tat (t:Tb) (i:Nat):Value:=
 if i<32 then(if i%2=0 then .int .i64 (t.L (i/2))else .int .u32 (t.G (i/2)))
 else(if i%4=0 then .int .u32 (t.P ((i-32)/4))else if i%4=1 then .int .u32 (t.A ((i-32)/4))else if i%4=2 then .int .u32 (t.S ((i-32)/4))else .int .i64 (t.U ((i-32)/4)))
def mat (P:Int) (r:Nat→Int) (v:Value) (i:Nat):Value:=if i=0 then .int .i64 P else if i<33 then .int .i64 (r (i-1))else v
theorem hcs_row (R:Nat→Int) (pc st ca:Int):hcs R pc st ca=rowOf (hat R pc st ca) 35:=by rfl
theorem tcs_row (t:Tb):tcs t=rowOf (tat t) 64:=by rfl
theorem mcs_row (P:Int) (r:Nat→Int) (v:Value):mcs P r v=rowOf (mat P r v) 34:=by rfl
structure Sls where
 c:Value
 m:Value
 f:Value
 s:Value
 u:Value
 a:Value
 r:Value
def kat (s:Cr) (L:Sls) (i:Nat):Value:=
 if i<4 then(if i=0 then .int .i64 s.win else if i=1 then .int .i64 s.phys else if i=2 then .int .i64 s.wide else L.c)
 else if i<39 then hat s.R s.pc s.st s.ca (i-4)
 else if i<43 then(if i=39 then L.m else if i=40 then .int .i64 s.cyc else if i=41 then .int .i64 s.tak else .int .i64 s.bck)
 else if i<107 then tat s.tb (i-43)
 else if i<141 then mat s.phys s.regs L.f (i-107)
 else if i<237 then .int .u32 (s.wd ((i-141:Nat):Int))
 else if i<333 then .bool (s.th ((i-237:Nat):Int))
 else if i=333 then L.s else if i=334 then L.u else if i=335 then L.a else if i=336 then L.r else if i=337 then .int .u32 s.fro else .bool s.opn
def flat {α:Type} (g:α→List Value):List α→List Value
 |[]=>[]
 |x::l=>g x++flat g l
theorem flat_len {α:Type} {g:α→List Value} {size:Nat} (hg:∀x,(g x).length=size):∀l:List α,(flat g l).length=l.length*size
 |[]=>by simp[flat]
 |x::l=>by simp[flat,hg,flat_len hg l,Nat.add_mul,Nat.add_comm]
theorem flat_app {α:Type} (g:α→List Value):∀l m:List α,flat g (l++m)=flat g l++flat g m
 |[],m=>rfl
 |x::l,m=>by simp[flat,flat_app g l m]
theorem flat_at {α:Type} {g:α→List Value} {size:Nat} (hg:∀x,(g x).length=size):∀{l:List α} {k j:Nat} {x:α} {u:Value},l[k]?=some x→(g x)[j]?=some u→(flat g l)[k*size+j]?=some u
 |[],k,j,x,u,h,_=>by simp at h
 |y::l,0,j,x,u,h,hu=>by
  simp at h
  subst h
  have hj:j<(g y).length:=(List.getElem?_eq_some_iff.1 hu).1
  rw[Nat.zero_mul,Nat.zero_add]
  show(g y++flat g l)[j]?=_
  rw[List.getElem?_append_left hj]
  exact hu
 |y::l,k+1,j,x,u,h,hu=>by
  have:=flat_at hg (l:=l) (k:=k) (by simpa using h) hu
  show(g y++flat g l)[(k+1)*size+j]?=_
  have e:(k+1)*size+j=(g y).length+(k*size+j):=by rw[hg,Nat.add_mul];omega
  rw[e,List.getElem?_append_right (by omega),Nat.add_sub_cancel_left]
  exact this
theorem flat_one {α:Type} {g:α→List Value} (hg:∀x,∀u∈g x,u.oneCell'=true):∀l:List α,∀u∈flat g l,u.oneCell'=true
 |[],u,h=>by simp[flat]at h
 |x::l,u,h=>by
  rcases List.mem_append.1 h with h|h
  ·exact hg x u h
  ·exact flat_one hg l u h
theorem flat_drop {α:Type} {g:α→List Value} {size:Nat} (hg:∀x,(g x).length=size):∀(l:List α) (m:Nat),flat g (l.drop m)=(flat g l).drop (m*size)
 |l,0=>by simp
 |[],m+1=>by simp[flat]
 |x::l,m+1=>by
  have:=flat_drop hg l m
  rw[List.drop_succ_cons,this]
  show _=(g x++flat g l).drop ((m+1)*size)
  have e1:(g x).drop ((m+1)*size)=[]:=List.drop_eq_nil_of_le (by rw[hg,Nat.add_mul];omega)
  rw[List.drop_append,hg,e1,show(m+1)*size-size=m*size by rw[Nat.add_mul];omega,List.nil_append]
def cml (c:Cm):List Value:=[.int .u32 c.pc,.int .u32 c.next,.int .i64 c.st,.int .i64 c.ca,.int .i64 c.rd,.int .u32 c.val,.int .u32 c.pl,.int .i64 c.many,.int .u32 c.data,.bool c.out,.int .u32 c.told]
def dgl (o:Dg):List Value:=[.int .i64 o.seq,.int .u32 o.pc,.int .i64 o.i.op,.int .i64 o.i.rd,.int .i64 o.i.s1,.int .i64 o.i.s2,.int .i32 o.i.im,.int .i64 o.st,.int .i64 o.a,.int .i64 o.b,.int .i64 o.rd,.int .i64 o.to,.int .i64 o.old,.int .u32 o.next,.bool o.gs,.int .i64 o.late,.bool o.car,
 .int .u32 o.c.pc,.int .u32 o.c.next,.int .i64 o.c.st,.int .i64 o.c.ca,.int .i64 o.c.rd,.int .u32 o.c.val,.int .u32 o.c.pl,.int .i64 o.c.many,.int .u32 o.c.data,.bool o.c.out,.int .u32 o.c.told]
abbrev dgv (o:Dg):Value:=.agg (dgl o).toArray
theorem cml_len (c:Cm):(cml c).length=11:=rfl
theorem dgl_len (o:Dg):(dgl o).length=28:=rfl
theorem cml_one (c:Cm):∀u∈cml c,u.oneCell'=true:=by
 intro u hu
 simp only[cml,List.mem_cons,List.not_mem_nil,or_false]at hu
 rcases hu with rfl|rfl|rfl|rfl|rfl|rfl|rfl|rfl|rfl|rfl|rfl<;>rfl
theorem dgl_one (o:Dg):∀u∈dgl o,u.oneCell'=true:=by
 intro u hu
 simp only[dgl,List.mem_cons,List.not_mem_nil,or_false]at hu
 rcases hu with rfl|rfl|rfl|rfl|rfl|rfl|rfl|rfl|rfl|rfl|rfl|rfl|rfl|rfl|rfl|rfl|rfl|rfl|rfl|rfl|rfl|rfl|rfl|rfl|rfl|rfl|rfl|rfl<;>rfl
theorem acs_flat:∀l:List Ac,acs l=flat cel l
 |[]=>rfl
 |x::l=>by
  have:=acs_flat l
  show cel x++acs l=cel x++flat cel l
  rw[this]
structure Us (w:World) (e size:Nat) (v:Value) (n:Nat) (xs:List Value):Prop where
 len:xs.length=n*size
 one:∀u∈xs,u.oneCell'=true
 is:(v=.slice none 0 0∧n=0)∨∃g o cap cur,v=.slice (some ⟨g,o,none⟩) n cap∧w.heap[g]?=some (.cells cur e (0,0))∧n≤cap∧cap≤maxLen∧o+cap*size≤cur.size∧(cur.toList.drop o).take (n*size)=xs
theorem Us.slice {w:World} {e size:Nat} {v:Value} {n:Nat} {xs:List Value} (h:Us w e size v n xs):∃p c,v=.slice p n c:=by
 rcases h.is with⟨h1,rfl⟩|⟨g,o,cap,cur,h1,_⟩
 ·exact⟨none,0,h1⟩
 ·exact⟨_,_,h1⟩
theorem Us.lc {w:World} {e size:Nat} {p:Option Addr} {n c:Nat} {xs:List Value} (h:Us w e size (.slice p n c) n xs):LC w p n c size xs:=by
 rcases h.is with⟨h1,rfl⟩|⟨g,o,cap,cur,h1,h2,h3,h4,h5,h6⟩
 ·obtain⟨rfl,-,rfl⟩:p=none∧0=0∧c=0:=by injection h1 with a b d;exact⟨a,b,d⟩
  obtain rfl:xs=[]:=List.eq_nil_of_length_eq_zero (by rw[h.len,Nat.zero_mul])
  exact lc_none w size
 ·obtain⟨rfl,-,rfl⟩:p=some ⟨g,o,none⟩∧n=n∧c=cap:=by injection h1 with a b d;exact⟨a,b,d⟩
  refine⟨h.len,h3,h4,fun h=>(by cases h),h.one,fun x hx h0=>⟨g,o,(Option.some.inj hx).symm,(Array.getElem?_eq_some_iff.1 h2).1,fun j u hj=>?_⟩⟩
  rw[cell_of_row _ _ _ _ _ _ h2,←Array.getElem?_toList]
  rw[←h6]at hj
  have hlt:j<n*size:=by have:=(List.getElem?_eq_some_iff.1 hj).1;rw[List.length_take]at this;omega
  rw[List.getElem?_take_of_lt hlt,List.getElem?_drop]at hj
  exact hj
theorem Us.move {w w':World} {e size:Nat} {v:Value} {n:Nat} {xs:List Value} (h:Us w e size v n xs) (hb:∀g,v.ownBlock=some g→w'.heap[g]?=w.heap[g]?):Us w' e size v n xs:=
 ⟨h.len,h.one,h.is.imp id fun⟨g,o,cap,cur,h1,h2,r⟩=>⟨g,o,cap,cur,h1,(hb g (by rw[h1];rfl)).trans h2,r⟩⟩
theorem Us.block {w:World} {e size:Nat} {v:Value} {n:Nat} {xs:List Value} (h:Us w e size v n xs) {g:Nat} (hg:v.ownBlock=some g):∃cur,w.heap[g]?=some (.cells cur e (0,0)):=by
 rcases h.is with⟨h1,_⟩|⟨g',o,cap,cur,h1,h2,_⟩
 ·rw[h1]at hg;cases hg
 ·rw[h1]at hg
  obtain rfl:g'=g:=Option.some.inj hg
  exact⟨cur,h2⟩
def own (b:Nat) (L:Sls) (g:Nat):Prop:=g=b∨L.c.ownBlock=some g∨L.u.ownBlock=some g∨L.a.ownBlock=some g
structure Its (N:Nat) (w:World) (b:Nat) (s:Cr) (L:Sls):Prop where
 ic:Us w 68 11 L.c s.coms.length (flat cml s.coms)
 iu:Us w 132 28 L.u s.under.length (flat dgl s.under)
 ia:Us w 135 7 L.a s.asked.length (flat cel s.asked)
 im:∃p cap,L.m=.slice p s.n cap∧Bys w p s.n cap s.f
 ifr:∃p cap,L.f=.slice p s.free.length cap∧Re.Lie w p s.free.length cap (fun i=>s.free.getD i 0)
 isl:∃p cap,L.s=.slice p s.slots.length cap∧LC w p s.slots.length cap 2 (scs s.slots)
 ir:∃p cap,L.r=.slice p s.scr.length cap∧LC w p s.scr.length cap 1 (ics s.scr)
 sm:∀g,L.m.ownBlock=some g→0<s.n→¬own b L g
 sf:∀g,L.f.ownBlock=some g→0<s.free.length→¬own b L g
 ss:∀g,L.s.ownBlock=some g→0<s.slots.length→¬own b L g
 sr:∀g,L.r.ownBlock=some g→0<s.scr.length→¬own b L g
 base:∀g,own b L g→N≤g
 tb:Tab w
 tb2:Tab2 w
 g1:0<N
 g2:2<N
 nN:N≤w.heap.size
structure St (N:Nat) (w:World) (b:Nat) (s:Cr) (L:Sls):Prop where
 row:w.heap[b]?=some (.cells (rowOf (kat s L) 339) 66 (0,0))
 its:Its N w b s L
structure To (b:Nat) (w:World) (L:Sls) (w':World) (L':Sls):Prop where
 os:w'.os=w.os
 tape:w'.tape=w.tape
 output:w'.output=w.output
 size:w.heap.size≤w'.heap.size
 block:∀g,g<w.heap.size→¬own b L g→w'.heap[g]?=w.heap[g]?
 fresh:∀g,own b L' g→own b L g∨w.heap.size≤g
theorem To.refl (b:Nat) (w:World) (L:Sls):To b w L w L:=⟨rfl,rfl,rfl,Nat.le_refl _,fun _ _ _=>rfl,fun _ h=>.inl h⟩
theorem To.trans {b:Nat} {w w1 w2:World} {L L1 L2:Sls} (h:To b w L w1 L1) (k:To b w1 L1 w2 L2):To b w L w2 L2:=by
 refine⟨k.os.trans h.os,k.tape.trans h.tape,k.output.trans h.output,Nat.le_trans h.size k.size,fun g hg hn=>?_,fun g hg=>?_⟩
 ·rw[k.block g (Nat.lt_of_lt_of_le hg h.size) (fun ho=>?_),h.block g hg hn]
  rcases h.fresh g ho with h'|h'
  ·exact hn h'
  ·omega
 ·rcases k.fresh g hg with h'|h'
  ·exact h.fresh g h'
  ·exact .inr (Nat.le_trans h.size h')
theorem to_below {b:Nat} {w w':World} (L:Sls) (h:Below w.heap.size w w'):To b w L w' L:=⟨h.os,h.tape,h.output,h.size,fun g hg _=>h.block g hg,fun _ h=>.inl h⟩
theorem own_lt {N:Nat} {w:World} {b:Nat} {s:Cr} {L:Sls} (h:St N w b s L) {g:Nat} (hg:own b L g):g<w.heap.size:=by
 rcases hg with rfl|hg|hg|hg
 ·exact(Array.getElem?_eq_some_iff.1 h.row).1
 ·obtain⟨cur,e⟩:=h.its.ic.block hg;exact(Array.getElem?_eq_some_iff.1 e).1
 ·obtain⟨cur,e⟩:=h.its.iu.block hg;exact(Array.getElem?_eq_some_iff.1 e).1
 ·obtain⟨cur,e⟩:=h.its.ia.block hg;exact(Array.getElem?_eq_some_iff.1 e).1
end Go.Proofs.YtpiohehijkpghacGreatDoor.Co
